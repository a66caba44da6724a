"""What several tests use: the example of the document, checks, and values of odd kinds."""

import copy
import unittest
from collections import namedtuple
from enum import IntEnum
from unittest.mock import MagicMock

# The example that the document gives under rowsahead/logs.py.
EXAMPLE = ((5, 0, 2), ((((0, 1), 9),), (((1,), 5), ((0,), 0)), (((0, 2), 4),)), 2, 3)
SETUP = (2, 1, 1)


class Case(unittest.TestCase):
    def assert_unchanged(self, call, *passed):
        """Check that a call changes nothing, so that it returns the same when it is repeated."""
        before = copy.deepcopy(passed)
        first = call(*passed)
        self.assertEqual(passed, before)
        self.assertEqual(call(*passed), first)


def used_in(count, *used):
    """Return a problem with so many batches; each row is used in those that are told for it."""
    batches = []
    for batch in range(count):
        rows = [row for row in range(len(used)) if batch in used[row]]
        batches.append(tuple([((row,), 1) for row in reversed(rows)]))
    return ((0,) * len(used), tuple(batches), 1, 1)


def refuse(*told, **more):
    raise RuntimeError("this object answers nothing")


class RefusingMeta(type):
    __eq__ = refuse
    __hash__ = type.__hash__
    __instancecheck__ = refuse


class Refusing(metaclass=RefusingMeta):
    """An object that answers whatever it is asked with an error."""
    __eq__ = __hash__ = __len__ = __iter__ = __getitem__ = __bool__ = refuse
    __lt__ = __le__ = __gt__ = __ge__ = __index__ = __int__ = refuse
    __class__ = property(refuse)

    def __repr__(self):
        return "Refusing()"


class RefusingTuple(tuple):
    __eq__ = __hash__ = __len__ = __iter__ = __getitem__ = refuse


class RefusingInteger(int):
    __eq__ = __hash__ = __lt__ = __le__ = __gt__ = __ge__ = refuse


class Level(IntEnum):
    ONE = 1


def looping_list():
    rows = []
    rows.append(rows)
    return rows


def deep_tuple():
    deep = ()
    for _ in range(5000):
        deep = (deep,)
    return deep


Triple = namedtuple("Triple", "a b c")

# Each of them is neither a tuple nor an integer.
STRANGERS = (
    None, True, False, "", "1", "abcd", b"1", b"abcd", 1.0, float("nan"), 1j,
    [], [1], {}, {0: 1}, set(), frozenset([1]), range(1), range(4), iter((1, 2, 3)),
    int, tuple, len, object(), Refusing, Refusing(), RefusingTuple((1, 1, 1)), RefusingInteger(1),
    Level.ONE, Triple(1, 1, 1), looping_list(),
    MagicMock(), MagicMock(spec=tuple), MagicMock(spec=int),
)
NOT_TUPLES = STRANGERS + (0, 1, -1)
NOT_INTEGERS = STRANGERS + ((), (1,), (0, 0), deep_tuple())
