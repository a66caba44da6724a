"""Point 13: delays and timetables; point 2: what is passed is unchanged."""

import unittest

from rowsahead.errors import BadDelays
from rowsahead.events import causes, events
from rowsahead.logs import is_orderly
from rowsahead.times import check_delays, timetable
from tests.helper import EXAMPLE, NOT_INTEGERS, NOT_TUPLES, RUNS, SETUP, Case

KINDS = ("request", "read", "reply", "value", "compute", "update", "write", "ack")
DELAYS = (1, 2, 3, 4, 5, 6, 7, 8)
SOME_DELAYS = (
    DELAYS, (0,) * 8, (1000,) * 8, (0, 0, 0, 0, 1, 0, 0, 0), (7, 0, 2, 1, 9, 0, 3, 30),
    (100, 0, 0, 1, 1, 1, 0, 0), (0, 5, 5, 0, 0, 5, 5, 0),
)


class Delays(unittest.TestCase):
    def test_right_delays(self):
        for delays in SOME_DELAYS + ((0, 1000, 0, 1000, 1, 999, 500, 0),):
            self.assertIsNone(check_delays(delays))

    def assert_bad(self, value):
        with self.assertRaises(BadDelays):
            check_delays(value)

    def test_other_kinds_than_tuples(self):
        for value in NOT_TUPLES + ([1] * 8, list(DELAYS), "12345678", range(8)):
            self.assert_bad(value)

    def test_other_numbers_of_delays(self):
        for count in (0, 1, 7, 9, 16):
            self.assert_bad((1,) * count)

    def test_each_delay_is_an_integer_within_its_limits(self):
        for place in range(8):
            for odd in NOT_INTEGERS + (-1, 1001, -1000, 10 ** 30):
                self.assert_bad(DELAYS[:place] + (odd,) + DELAYS[place + 1:])


class Timetables(unittest.TestCase):
    def test_each_kind_has_its_own_delay(self):
        problem = ((5,), ((((0,), 9),),), 1, 9)
        found = timetable(problem, (1, 1, 1), 0, (1, 2, 4, 8, 16, 32, 64, 128))
        self.assertEqual(found, (
            (("request", 0, 0), 1), (("read", 0, 0), 3), (("reply", 0, 0), 7),
            (("value", 0, 0, 0), 15), (("compute", 0, 0), 31), (("update", 0, 0, 0), 63),
            (("write", 0, 0), 127), (("ack", 0, 0), 255),
        ))

    def test_timetable_of_the_example(self):
        self.assertEqual(timetable(EXAMPLE, SETUP, 0, DELAYS), (
            (("request", 0, 0), 1), (("request", 1, 0), 1),
            (("read", 0, 0), 3), (("read", 1, 0), 3),
            (("compute", 1, 0), 5),
            (("reply", 0, 0), 6), (("reply", 1, 0), 6),
            (("value", 0, 0, 0), 10), (("value", 1, 0, 0), 10),
            (("compute", 0, 0), 15),
            (("update", 0, 0, 0), 21), (("update", 1, 0, 0), 21),
            (("value", 0, 1, 1), 25), (("value", 1, 1, 0), 25),
            (("compute", 0, 1), 30), (("compute", 1, 1), 30),
            (("update", 0, 1, 1), 36), (("update", 1, 1, 0), 36),
            (("request", 2, 2), 37), (("read", 2, 2), 39),
            (("value", 0, 2, 0), 40), (("compute", 1, 2), 41), (("reply", 2, 2), 42),
            (("write", 1, 1), 43), (("value", 2, 2, 0), 46),
            (("ack", 1, 1), 51), (("compute", 0, 2), 51),
            (("update", 0, 2, 0), 57), (("update", 2, 2, 0), 57),
            (("write", 0, 2), 64), (("write", 2, 2), 64),
            (("ack", 0, 2), 72), (("ack", 2, 2), 72),
        ))

    def test_equal_times_in_canonical_order(self):
        # At each time there are events of both batches, and of several kinds.
        problem = ((0, 0), ((((1,), 1),), (((0,), 1),)), 1, 1)
        found = timetable(problem, (2, 2, 2), 0, (2, 0, 0, 0, 2, 0, 0, 0))
        self.assertEqual(found, (
            (("request", 1, 0), 2), (("read", 1, 0), 2), (("reply", 1, 0), 2),
            (("value", 1, 0, 0), 2), (("compute", 1, 0), 2),
            (("request", 0, 1), 2), (("read", 0, 1), 2), (("reply", 0, 1), 2),
            (("value", 0, 1, 0), 2),
            (("compute", 0, 0), 4), (("update", 1, 0, 0), 4), (("write", 1, 0), 4),
            (("ack", 1, 0), 4), (("compute", 1, 1), 4),
            (("compute", 0, 1), 6), (("update", 0, 1, 0), 6), (("write", 0, 1), 6),
            (("ack", 0, 1), 6),
        ))

    def test_no_delays(self):
        for run in RUNS:
            found = timetable(*run, (0,) * 8)
            self.assertEqual(found, tuple([(event, 0) for event in events(*run)]))

    def test_a_run_without_events(self):
        self.assertEqual(timetable(EXAMPLE, SETUP, 3, DELAYS), ())

    def test_each_time_follows_from_those_of_the_causes(self):
        for run in RUNS:
            for delays in SOME_DELAYS:
                times = dict(timetable(*run, delays))
                self.assertEqual(set(times), set(events(*run)))
                for event, time in times.items():
                    before = [times[cause] for cause in causes(*run, event)]
                    delay = delays[KINDS.index(event[0])]
                    self.assertEqual(time, delay + max(before + [0]))

    def test_order_of_timetables(self):
        for run in RUNS:
            canonical = {event: place for place, event in enumerate(events(*run))}
            for delays in SOME_DELAYS:
                found = timetable(*run, delays)
                self.assertIs(type(found), tuple)
                self.assertEqual(len(found), len(canonical))
                keys = [(time, canonical[event]) for event, time in found]
                self.assertEqual(keys, sorted(keys))
                self.assertTrue(is_orderly(*run, [event for event, time in found]))

    def test_bad_delays(self):
        for delays in (None, list(DELAYS), DELAYS[:7], DELAYS + (1,), (-1,) * 8, (1001,) * 8,
                       (True,) * 8, DELAYS[:7] + ("8",)):
            with self.assertRaises(BadDelays):
                timetable(EXAMPLE, SETUP, 0, delays)


class Unchanged(Case):
    def test_what_was_passed_is_unchanged(self):
        problem = [[5, 0], [[[[0, 1], 9]], [], [[[1], 5], [[0], 0]]], 2, 3]
        self.assert_unchanged(timetable, problem, [2, 1, 1], 0, DELAYS)
        self.assert_unchanged(check_delays, DELAYS)
        refused = [1, 2, 3]
        with self.assertRaises(BadDelays):
            check_delays(refused)
        self.assertEqual(refused, [1, 2, 3])


if __name__ == "__main__":
    unittest.main()
