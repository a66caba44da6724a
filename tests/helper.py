"""What several tests use: the example of the document, checks, and values of odd kinds."""

import copy
import unittest
from collections import namedtuple
from enum import IntEnum
from unittest.mock import MagicMock

from rowsahead.errors import CheckpointUnderWay, TooLate
from rowsahead.runs import Run

# The example that the document gives under rowsahead/logs.py.
EXAMPLE = ((5, 0, 2), ((((0, 1), 9),), (((1,), 5), ((0,), 0)), (((0, 2), 4),)), 2, 3)
SETUP = (2, 1, 1)


class Case(unittest.TestCase):
    def assert_unchanged(self, call, *passed):
        """Check that a call changes nothing, so that it returns the same when it is repeated."""
        before = copy.deepcopy(passed)
        first = call(*passed)
        self.assertEqual(passed, before)
        self.assertEqual(call(*passed), first)


def moved(problem, setup, first, *taken):
    """Return a run in which these events have taken place."""
    run = Run(problem, setup, first)
    for event in taken:
        run.step(event)
    return run


def is_under_way(run):
    """Tell whether a checkpoint is under way: of a batch before the first one none is begun."""
    try:
        run.save(-1)
    except CheckpointUnderWay:
        return True
    except TooLate:
        return False
    raise AssertionError("a checkpoint of no batch was begun")


def picture(run):
    """Return all that a run tells of itself."""
    return (
        run.first, run.settled(), run.finished(), run.enabled(), run.rows(), run.positions(),
        run.checkpoint(), is_under_way(run), len(run), list(run),
    )


def advance(run, pick, count=None):
    """Let so many events take place, or all, as they are picked; return what they reported."""
    reports = []
    while run.enabled() and (count is None or len(reports) < count):
        event = pick(run.enabled(), len(run))
        reports.append((event, run.step(event)))
    return reports


def used_in(count, *used):
    """Return a problem with so many batches; each row is used in those that are told for it."""
    batches = []
    for batch in range(count):
        rows = [row for row in range(len(used)) if batch in used[row]]
        batches.append(tuple([((row,), 1) for row in reversed(rows)]))
    return ((0,) * len(used), tuple(batches), 1, 1)


def refuse(*told, **more):
    raise RuntimeError("this object answers nothing")


class RefusingMeta(type):
    __eq__ = refuse
    __hash__ = type.__hash__
    __instancecheck__ = refuse


class Refusing(metaclass=RefusingMeta):
    """An object that answers whatever it is asked with an error."""
    __eq__ = __hash__ = __len__ = __iter__ = __getitem__ = __bool__ = refuse
    __lt__ = __le__ = __gt__ = __ge__ = __index__ = __int__ = refuse
    __class__ = property(refuse)

    def __repr__(self):
        return "Refusing()"


class RefusingTuple(tuple):
    __eq__ = __hash__ = __len__ = __iter__ = __getitem__ = refuse


class RefusingInteger(int):
    __eq__ = __hash__ = __lt__ = __le__ = __gt__ = __ge__ = refuse


class Level(IntEnum):
    ONE = 1


def looping_list():
    rows = []
    rows.append(rows)
    return rows


def deep_tuple():
    deep = ()
    for _ in range(5000):
        deep = (deep,)
    return deep


Triple = namedtuple("Triple", "a b c")

# The events of a run may take place in many orders: each of these picks the next possible one.
PICKS = (
    lambda possible, turn: possible[0],
    lambda possible, turn: possible[-1],
    lambda possible, turn: possible[turn * 7 % len(possible)],
    lambda possible, turn: min(possible, key=lambda event: (event[1], event)),
)
# Both rows are fetched twice, and in batch 2 nothing happens but computes.
TWICE = ((0, 0), ((((0, 1), 1), ((1,), 2)), (((0,), 3),), (), (((1,), 4), ((0,), 5))), 1, 9)
# Rows that several trainers use in one batch; row 4 is not used, and batch 0 has no samples.
SHARED = (
    (9, -4, 0, 7, 3),
    (
        (),
        (((0, 1), 30), ((1, 2), -8), ((0, 3, 1), 5)),
        (((3,), -50), ((0, 2), 11), ((2, 3), 2), ((1,), 6)),
        (((1, 0), 3), ((1,), -9)),
    ),
    3, 5,
)
RUNS = (
    (EXAMPLE, SETUP, 0), (EXAMPLE, (1, 2, 2), 1),
    (TWICE, (2, 1, 1), 0), (TWICE, (3, 2, 3), 1), (TWICE, (1, 3, 1), 2),
    (SHARED, (2, 1, 1), 0), (SHARED, (3, 2, 2), 0), (SHARED, (4, 1, 3), 1),
    (used_in(5, (0, 2, 4), (1,), (0, 1, 2)), (2, 1, 2), 0),
)

# Each of them is neither a tuple nor an integer.
STRANGERS = (
    None, True, False, "", "1", "abcd", b"1", b"abcd", 1.0, float("nan"), 1j,
    [], [1], {}, {0: 1}, set(), frozenset([1]), range(1), range(4), iter((1, 2, 3)),
    int, tuple, len, object(), Refusing, Refusing(), RefusingTuple((1, 1, 1)), RefusingInteger(1),
    Level.ONE, Triple(1, 1, 1), looping_list(),
    MagicMock(), MagicMock(spec=tuple), MagicMock(spec=int),
)
NOT_TUPLES = STRANGERS + (0, 1, -1)
NOT_INTEGERS = STRANGERS + ((), (1,), (0, 0), deep_tuple())
