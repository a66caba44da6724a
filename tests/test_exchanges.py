"""Points 12 and 15: free neighbours, exchanges and their judge; point 2."""

import unittest
from itertools import combinations, permutations

from rowsahead.events import causes, events
from rowsahead.papers import exchanges, judge_exchanges
from tests.helper import (
    EXAMPLE, NOT_INTEGERS, NOT_TUPLES, PICKS, RUNS, SETUP, TWICE, Case, deep_tuple,
)

RUN = (EXAMPLE, SETUP, 0)
# One behind the other, these six are linked as request - read - reply, request - read - reply.
SIX = (("request", 0, 0), ("read", 0, 0), ("reply", 0, 0),
       ("request", 1, 0), ("read", 1, 0), ("reply", 1, 0))


def picked_log(run, pick):
    """Return an orderly log of all events of a run."""
    before = {event: causes(*run, event) for event in events(*run)}
    log = {}
    while len(log) < len(before):
        possible = [event for event in before if event not in log
                    and all(cause in log for cause in before[event])]
        log[pick(possible, len(log))] = True
    return tuple(log)


def are_linked(run, one, other):
    return one == other or one in causes(*run, other) or other in causes(*run, one)


def other_way_round(log, other):
    """Return the pairs of events that stand the other way round in the other log."""
    return [pair for pair in combinations(log, 2) if other.index(pair[0]) > other.index(pair[1])]


class ExchangeCase(Case):
    def assert_judged(self, expected, log, other, places, run=RUN):
        self.assertIs(judge_exchanges(*run, log, other, places), expected)

    def assert_free(self, expected, one, other, run=RUN):
        """Check whether two events are free, in either order and among others."""
        for pair in ((one, other), (other, one)):
            self.assert_judged(expected, pair, pair[::-1], (0,), run)
            around = (("ack", 2, 2),) + pair + (("request", 2, 2),)
            behind = (("ack", 2, 2),) + pair[::-1] + (("request", 2, 2),)
            self.assert_judged(expected, around, behind, (1,), run)
            self.assert_judged(False, around, behind, (0,), run)


class FreeNeighbours(ExchangeCase):
    def test_events_that_are_free(self):
        for one, other in (
            (("request", 0, 0), ("request", 1, 0)), (("request", 0, 0), ("read", 1, 0)),
            (("request", 0, 0), ("reply", 0, 0)), (("read", 0, 0), ("write", 0, 2)),
            (("value", 0, 0, 0), ("value", 1, 0, 0)), (("compute", 0, 0), ("compute", 1, 0)),
            (("compute", 0, 0), ("compute", 0, 2)), (("value", 0, 0, 0), ("compute", 1, 0)),
            (("value", 0, 1, 1), ("update", 1, 0, 0)), (("ack", 1, 1), ("write", 0, 2)),
            (("update", 0, 0, 0), ("request", 1, 0)),
        ):
            self.assert_free(True, one, other)

    def test_events_one_of_which_is_a_direct_cause_of_the_other(self):
        for cause, event in (
            (("request", 0, 0), ("read", 0, 0)), (("read", 0, 0), ("reply", 0, 0)),
            (("reply", 0, 0), ("value", 0, 0, 0)), (("value", 0, 0, 0), ("compute", 0, 0)),
            (("compute", 0, 0), ("update", 0, 0, 0)), (("compute", 1, 0), ("compute", 1, 1)),
            (("update", 0, 0, 0), ("value", 0, 1, 1)), (("update", 1, 0, 0), ("compute", 1, 1)),
            (("update", 0, 1, 1), ("request", 2, 2)), (("update", 1, 1, 0), ("write", 1, 1)),
            (("write", 1, 1), ("ack", 1, 1)),
        ):
            self.assert_free(False, cause, event)
        self.assert_free(False, ("ack", 0, 1), ("request", 0, 3), (TWICE, (2, 1, 1), 0))

    def test_all_pairs_of_events(self):
        for run in RUNS[:4]:
            for one, other in combinations(events(*run), 2):
                expected = not are_linked(run, one, other)
                self.assert_judged(expected, (one, other), (other, one), (0,), run)
                self.assert_judged(expected, (other, one), (one, other), (0,), run)

    def test_same_event_beside_itself(self):
        event = ("request", 0, 0)
        self.assert_judged(False, (event, event), (event, event), (0,))
        self.assert_judged(True, (event, event), (event, event), ())

    def test_what_is_no_event_is_not_exchanged(self):
        event = ("request", 0, 0)
        for strange in ((), ("request",), ("request", 2, 0), ("request", True, 0), ("send", 0, 0),
                        ("request", 1, 1), ("compute", 2, 0), (0, 0, 0), ("request", [1], 0)):
            self.assert_judged(False, (event, strange), (strange, event), (0,))
            self.assert_judged(False, (strange, event), (event, strange), (0,))
            self.assert_judged(True, (strange, event), (strange, event), ())

    def test_causes_are_those_of_the_run(self):
        one, other = ("update", 0, 0, 0), ("compute", 1, 1)
        self.assert_judged(False, (one, other), (other, one), (0,))
        self.assert_judged(True, (one, other), (other, one), (0,), (EXAMPLE, (2, 1, 2), 0))
        self.assert_judged(False, (one, other), (other, one), (0,), (EXAMPLE, (2, 1, 2), 1))


class Judge(ExchangeCase):
    def test_exchanges_one_behind_the_other(self):
        other = SIX[:2] + (SIX[3], SIX[2], SIX[4], SIX[5])
        self.assert_judged(True, SIX, other, (2,))
        other = SIX[:1] + (SIX[3], SIX[1], SIX[2], SIX[4], SIX[5])
        self.assert_judged(True, SIX, other, (2, 1))
        self.assert_judged(False, SIX, other, (1, 2))
        other = SIX[3:] + SIX[:3]
        self.assert_judged(True, SIX, other, (2, 1, 0, 3, 2, 1, 4, 3, 2))
        self.assert_judged(False, SIX, other, (2, 1, 0, 3, 2, 1, 4, 3))
        self.assert_judged(False, SIX, other, (2, 1, 0, 3, 2, 1, 4, 3, 2, 0))

    def test_no_exchanges(self):
        self.assert_judged(True, SIX, SIX, ())
        self.assert_judged(True, (), (), ())
        self.assert_judged(False, SIX, SIX[:1] + (SIX[3],) + SIX[1:3] + SIX[4:], ())

    def test_more_exchanges_than_are_needed(self):
        self.assert_judged(True, SIX, SIX, (2, 2))
        self.assert_judged(True, SIX, SIX, (2, 1, 1, 2))
        self.assert_judged(False, SIX, SIX, (2,))
        self.assert_judged(False, SIX, SIX, (2, 2, 2))

    def test_exchange_of_linked_events_on_the_way(self):
        self.assert_judged(False, SIX, SIX, (0, 0))
        self.assert_judged(False, SIX, SIX, (2, 0, 0, 2))
        self.assert_judged(False, SIX, (SIX[1], SIX[0]) + SIX[2:], (0,))

    def test_logs_that_are_not_orderly(self):
        log = (("reply", 0, 0), ("reply", 1, 0), ("read", 0, 0))
        other = (("reply", 1, 0), ("reply", 0, 0), ("read", 0, 0))
        self.assert_judged(True, log, other, (0,))
        self.assert_judged(False, log, (log[0], log[2], log[1]), (0, 1))
        self.assert_judged(True, log, (log[0], log[2], log[1]), (1,))

    def test_places_beyond_the_log(self):
        for place in (-1, -2, -6, 5, 6, 7, 10 ** 30):
            self.assert_judged(False, SIX, SIX, (place,))
            self.assert_judged(False, SIX, SIX, (place, place))
            self.assert_judged(False, SIX, SIX, (2, 2, place))
        for log in ((), SIX[:1]):
            for place in (-2, -1, 0, 1):
                self.assert_judged(False, log, log, (place,))
                self.assert_judged(False, log, log, (place, place))

    def test_first_and_last_place(self):
        log = (SIX[0], SIX[3], SIX[1], SIX[4])
        self.assert_judged(True, log, (SIX[3], SIX[0], SIX[1], SIX[4]), (0,))
        self.assert_judged(True, log, (SIX[0], SIX[3], SIX[4], SIX[1]), (2,))
        # A negative place would be counted from the end of the log.
        self.assert_judged(False, log, (SIX[0], SIX[3], SIX[4], SIX[1]), (-2,))
        self.assert_judged(False, log, (SIX[4], SIX[3], SIX[1], SIX[0]), (-1,))

    def test_places_that_are_no_integers(self):
        log = (SIX[0], SIX[3], SIX[1], SIX[4])
        for odd in NOT_INTEGERS:
            self.assert_judged(False, log, log, (odd,))
            self.assert_judged(False, log, log, (odd, odd))
            self.assert_judged(False, log, log, (0, 0, odd))
        self.assert_judged(False, log, (SIX[3], SIX[0], SIX[1], SIX[4]), (False,))
        self.assert_judged(False, log, (SIX[0], SIX[1], SIX[3], SIX[4]), (True,))

    def test_places_that_are_no_tuple(self):
        for odd in NOT_TUPLES + ([], [2, 2], (2, [2]), ((2,), (2,)), deep_tuple(), "", {2: 2}):
            self.assert_judged(False, SIX, SIX, odd)

    def test_logs_that_differ(self):
        other = SIX[:5] + (("compute", 1, 0),)
        for one, another in ((SIX, other), (other, SIX), (SIX, SIX[:5]), (SIX[:5], SIX),
                             (SIX, ()), ((), SIX), (SIX, SIX + SIX[:1]), (SIX, SIX[::-1])):
            for places in ((), (2,), (2, 2)):
                self.assert_judged(False, one, another, places)

    def test_true_in_a_log_is_no_integer(self):
        log = (("compute", 1, 0), ("compute", 0, 0))
        other = (("compute", True, 0), ("compute", 0, 0))
        for places in ((), (0,), (0, 0)):
            self.assert_judged(False, log, other, places)
            self.assert_judged(False, other, log, places)
        self.assert_judged(True, other, other, ())


class Maker(ExchangeCase):
    def test_places_that_lead_from_log_to_log(self):
        self.assertEqual(exchanges(*RUN, SIX, SIX), ())
        self.assertEqual(exchanges(*RUN, (), ()), ())
        self.assertEqual(exchanges(*RUN, SIX, SIX[:2] + (SIX[3], SIX[2]) + SIX[4:]), (2,))
        self.assertEqual(exchanges(*RUN, SIX, SIX[:1] + (SIX[3],) + SIX[1:3] + SIX[4:]), (2, 1))

    def assert_made(self, run, log, other):
        found = exchanges(*run, log, other)
        pairs = other_way_round(log, other)
        if any(are_linked(run, one, another) for one, another in pairs):
            self.assertIsNone(found)
        else:
            self.assertIs(type(found), tuple)
            self.assertEqual(len(found), len(pairs))
            self.assert_judged(True, log, other, found, run)

    def test_all_orders_of_a_few_events(self):
        fives = (SIX[:5], SIX[1:], (SIX[0], SIX[3], ("compute", 1, 0), SIX[1], SIX[4]),
                 (("update", 0, 0, 0), ("value", 0, 1, 1), ("value", 1, 1, 0), ("compute", 0, 1),
                  ("compute", 1, 1)))
        for five in fives:
            for other in permutations(five):
                self.assert_made(RUN, five, other)
                self.assert_made(RUN, other, five)

    def test_fewest_places_of_all_ways(self):
        # Logs that are reached, by how many exchanges lead to them at least.
        reached, found = {SIX: 0}, [SIX]
        for log in found:
            for place in range(5):
                if not are_linked(RUN, log[place], log[place + 1]):
                    other = log[:place] + (log[place + 1], log[place]) + log[place + 2:]
                    if other not in reached:
                        reached[other] = reached[log] + 1
                        found.append(other)
        self.assertEqual(len(reached), 20)
        for other in permutations(SIX):
            found = exchanges(*RUN, SIX, other)
            self.assertEqual(None if found is None else len(found), reached.get(other))

    def test_orderly_logs_with_the_same_events_are_led_to_one_another(self):
        for run in RUNS[:6]:
            logs = [events(*run)] + [picked_log(run, pick) for pick in PICKS[1:]]
            for log, other in permutations(logs, 2):
                self.assertNotEqual(log, other)
                places = exchanges(*run, log, other)
                self.assertEqual(len(places), len(other_way_round(log, other)))
                self.assert_judged(True, log, other, places, run)

    def test_linked_events_that_stand_the_other_way_round(self):
        log = events(*RUN)
        for event in log[::4]:
            for cause in causes(*RUN, event):
                rest = [other for other in log if other != event]
                at = rest.index(cause)
                other = tuple(rest[:at] + [event] + rest[at:])
                self.assertIsNone(exchanges(*RUN, log, other))
                self.assertIsNone(exchanges(*RUN, other, log))

    def test_logs_with_other_events(self):
        other = SIX[:5] + (("compute", 1, 0),)
        for one, another in ((SIX, other), (SIX, SIX[:5]), (SIX, SIX[1:]), (SIX, ()),
                             (SIX[:1], SIX[1:2])):
            self.assertIsNone(exchanges(*RUN, one, another))
            self.assertIsNone(exchanges(*RUN, another, one))

    def test_causes_are_those_of_the_run(self):
        log = (("update", 0, 0, 0), ("compute", 1, 1))
        self.assertIsNone(exchanges(*RUN, log, log[::-1]))
        self.assertEqual(exchanges(EXAMPLE, (2, 1, 2), 0, log, log[::-1]), (0,))


class Unchanged(Case):
    def test_what_was_passed_is_unchanged(self):
        problem = [[5, 0], [[[[0, 1], 9]], [], [[[1], 5], [[0], 0]]], 2, 3]
        log = events(problem, [2, 1, 1], 0)
        other = picked_log((problem, [2, 1, 1], 0), PICKS[1])
        places = exchanges(problem, [2, 1, 1], 0, log, other)
        self.assertGreater(len(places), 5)
        for target in (other, log, other[1:]):
            self.assert_unchanged(exchanges, problem, [2, 1, 1], 0, log, target)
            for handed in (places, list(places), places[1:], ()):
                self.assert_unchanged(
                    judge_exchanges, problem, [2, 1, 1], 0, log, target, handed)


if __name__ == "__main__":
    unittest.main()
