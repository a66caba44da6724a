"""Points 9 and 11: events of runs, written out, and plans; point 2: what is passed is unchanged."""

import unittest

from rowsahead.events import canonical_key, events, plan
from tests.helper import EXAMPLE, RUNS, SETUP, Case, used_in

# In batch 0 both rows are looked up by two samples, in batch 1 none, in batch 2 row 1.
MIXED = ((1, 1), ((((1,), 0), ((1, 0), 0), ((0,), 0)), (), (((1,), 0),)), 1, 1)
# As far as its updates, with two trainers.
BATCH_0_OF_MIXED = (
    ("request", 0, 0), ("request", 1, 0),
    ("read", 0, 0), ("read", 1, 0),
    ("reply", 0, 0), ("reply", 1, 0),
    ("value", 0, 0, 0), ("value", 0, 0, 1), ("value", 1, 0, 0), ("value", 1, 0, 1),
    ("compute", 0, 0), ("compute", 1, 0),
    ("update", 0, 0, 0), ("update", 0, 0, 1), ("update", 1, 0, 0), ("update", 1, 0, 1),
)

BATCH_0_OF_EXAMPLE = (
    ("request", 0, 0), ("request", 1, 0),
    ("read", 0, 0), ("read", 1, 0),
    ("reply", 0, 0), ("reply", 1, 0),
    ("value", 0, 0, 0), ("value", 1, 0, 0),
    ("compute", 0, 0), ("compute", 1, 0),
    ("update", 0, 0, 0), ("update", 1, 0, 0),
)
BATCH_1_OF_EXAMPLE = (
    ("value", 0, 1, 1), ("value", 1, 1, 0),
    ("compute", 0, 1), ("compute", 1, 1),
    ("update", 0, 1, 1), ("update", 1, 1, 0),
    ("write", 1, 1),
    ("ack", 1, 1),
)
BATCH_2_OF_EXAMPLE = (
    ("request", 2, 2),
    ("read", 2, 2),
    ("reply", 2, 2),
    ("value", 0, 2, 0), ("value", 2, 2, 0),
    ("compute", 0, 2), ("compute", 1, 2),
    ("update", 0, 2, 0), ("update", 2, 2, 0),
    ("write", 0, 2), ("write", 2, 2),
    ("ack", 0, 2), ("ack", 2, 2),
)


class Events(unittest.TestCase):
    def assert_events(self, problem, setup, first, expected):
        self.assertEqual(events(problem, setup, first), tuple(expected))

    def test_example_of_the_document(self):
        whole = BATCH_0_OF_EXAMPLE + BATCH_1_OF_EXAMPLE + BATCH_2_OF_EXAMPLE
        self.assert_events(EXAMPLE, SETUP, 0, whole)

    def test_run_that_begins_behind_its_first_batches(self):
        opening = (
            ("request", 0, 1), ("request", 1, 1),
            ("read", 0, 1), ("read", 1, 1),
            ("reply", 0, 1), ("reply", 1, 1),
        )
        self.assert_events(EXAMPLE, SETUP, 1, opening + BATCH_1_OF_EXAMPLE + BATCH_2_OF_EXAMPLE)
        self.assert_events(EXAMPLE, SETUP, 2, (
            ("request", 0, 2), ("request", 2, 2),
            ("read", 0, 2), ("read", 2, 2),
            ("reply", 0, 2), ("reply", 2, 2),
        ) + BATCH_2_OF_EXAMPLE[3:])

    def test_run_without_batches(self):
        self.assert_events(EXAMPLE, SETUP, 3, ())
        self.assert_events(MIXED, (4, 20, 20), 3, ())

    def test_single_trainer(self):
        self.assert_events(EXAMPLE, (1, 1, 1), 2, (
            ("request", 0, 2), ("request", 2, 2),
            ("read", 0, 2), ("read", 2, 2),
            ("reply", 0, 2), ("reply", 2, 2),
            ("value", 0, 2, 0), ("value", 2, 2, 0),
            ("compute", 0, 2),
            ("update", 0, 2, 0), ("update", 2, 2, 0),
            ("write", 0, 2), ("write", 2, 2),
            ("ack", 0, 2), ("ack", 2, 2),
        ))

    def test_trainers_without_a_sample(self):
        self.assert_events(((7,), ((((0,), 1),),), 1, 1), (4, 1, 1), 0, (
            ("request", 0, 0),
            ("read", 0, 0),
            ("reply", 0, 0),
            ("value", 0, 0, 0),
            ("compute", 0, 0), ("compute", 1, 0), ("compute", 2, 0), ("compute", 3, 0),
            ("update", 0, 0, 0),
            ("write", 0, 0),
            ("ack", 0, 0),
        ))

    def test_more_rows_than_batches(self):
        self.assert_events(((7,) * 5, ((((4, 2), 1),),), 1, 1), (1, 1, 1), 0, (
            ("request", 2, 0), ("request", 4, 0),
            ("read", 2, 0), ("read", 4, 0),
            ("reply", 2, 0), ("reply", 4, 0),
            ("value", 2, 0, 0), ("value", 4, 0, 0),
            ("compute", 0, 0),
            ("update", 2, 0, 0), ("update", 4, 0, 0),
            ("write", 2, 0), ("write", 4, 0),
            ("ack", 2, 0), ("ack", 4, 0),
        ))

    def test_batches_without_samples(self):
        self.assert_events(((7, 7), ((), ()), 1, 1), (3, 1, 1), 0, (
            ("compute", 0, 0), ("compute", 1, 0), ("compute", 2, 0),
            ("compute", 0, 1), ("compute", 1, 1), ("compute", 2, 1),
        ))

    def test_rows_with_two_users_and_two_stays(self):
        self.assert_events(MIXED, (2, 1, 1), 0, BATCH_0_OF_MIXED + (
            ("write", 0, 0), ("write", 1, 0),
            ("ack", 0, 0), ("ack", 1, 0),
            ("compute", 0, 1), ("compute", 1, 1),
            ("request", 1, 2),
            ("read", 1, 2),
            ("reply", 1, 2),
            ("value", 1, 2, 0),
            ("compute", 0, 2), ("compute", 1, 2),
            ("update", 1, 2, 0),
            ("write", 1, 2),
            ("ack", 1, 2),
        ))

    def test_stay_over_a_batch_without_samples(self):
        for lead in (1, 20):
            self.assert_events(MIXED, (2, 2, lead), 0, BATCH_0_OF_MIXED + (
                ("write", 0, 0),
                ("ack", 0, 0),
                ("compute", 0, 1), ("compute", 1, 1),
                ("value", 1, 2, 0),
                ("compute", 0, 2), ("compute", 1, 2),
                ("update", 1, 2, 0),
                ("write", 1, 2),
                ("ack", 1, 2),
            ))

    def test_events_that_are_sorted_by_their_canonical_keys(self):
        for run in RUNS:
            listed = events(*run)
            for mixed in (listed[::-1], sorted(listed), listed[1::2] + listed[::2]):
                self.assertEqual(tuple(sorted(mixed, key=canonical_key)), listed)

    def test_more_rows_and_batches_than_the_limits(self):
        problem = ((0,) * 30, ((((29,), 1),),) * 30, 1, 1)
        found = events(problem, (5, 25, 25), 0)
        self.assertEqual(len(found), 3 + 30 * (1 + 5 + 1) + 2)
        self.assertEqual(found[-1], ("ack", 29, 29))

    def test_kinds_of_values(self):
        found = events(MIXED, (2, 1, 1), 0)
        self.assertIs(type(found), tuple)
        for event in found:
            self.assertIs(type(event), tuple)
            self.assertEqual([type(part) for part in event], [str] + [int] * (len(event) - 1))


class Plans(unittest.TestCase):
    def assert_bound(self, problem, window, lead, first, bound):
        with self.subTest(window=window, lead=lead, first=first):
            self.assertEqual(plan(problem, (1, window, lead), first)[3], bound)

    def test_example_of_the_document(self):
        self.assertEqual(plan(EXAMPLE, SETUP, 0), (3, 6, 33, 3))

    def test_first_batch(self):
        self.assertEqual(plan(EXAMPLE, SETUP, 1), (3, 4, 27, 3))
        self.assertEqual(plan(EXAMPLE, SETUP, 2), (2, 2, 16, 2))

    def test_run_without_batches(self):
        self.assertEqual(plan(EXAMPLE, SETUP, 3), (0, 0, 0, 0))
        self.assertEqual(plan(EXAMPLE, (4, 20, 20), 3), (0, 0, 0, 0))

    def test_batches_without_samples(self):
        self.assertEqual(plan(((7,), ((), ()), 1, 1), (3, 1, 1), 0), (0, 0, 6, 0))

    def test_stays_and_users(self):
        self.assertEqual(plan(MIXED, (2, 1, 1), 0), (3, 5, 31, 2))
        self.assertEqual(plan(MIXED, (2, 2, 1), 0), (2, 5, 26, 2))
        self.assertEqual(plan(MIXED, (1, 2, 1), 0), (2, 3, 19, 2))
        self.assertEqual(plan(MIXED, (4, 1, 1), 0), (3, 5, 37, 2))

    def test_bound_covers_window_and_lead(self):
        problem = used_in(5, (0,), (1,), (2,), (3,), (4,))
        for window, lead in ((1, 1), (2, 1), (1, 2), (2, 2), (3, 1), (3, 2)):
            self.assert_bound(problem, window, lead, 0, window + lead)

    def test_window_and_lead_beyond_the_number_of_batches(self):
        problem = used_in(5, (0,), (1,), (2,), (3,), (4,))
        for window, lead in ((5, 1), (1, 5), (1, 20), (20, 1), (20, 20)):
            self.assert_bound(problem, window, lead, 0, 5)
            self.assert_bound(problem, window, lead, 3, 2)
            self.assert_bound(problem, window, lead, 5, 0)

    def test_bound_is_the_greatest_number(self):
        problem = used_in(6, (0, 1, 2), (2, 3), (3,), (3, 5), ())
        self.assert_bound(problem, 1, 1, 0, 4)
        self.assert_bound(problem, 1, 1, 3, 3)
        self.assert_bound(problem, 1, 1, 4, 1)

    def test_batches_before_the_first_one_do_not_count(self):
        problem = used_in(3, (0, 1, 2), (0,), (0,))
        self.assert_bound(problem, 1, 1, 0, 3)
        self.assert_bound(problem, 1, 1, 1, 1)

    def test_rows_count_once(self):
        problem = ((0, 0), ((((0, 1), 0), ((1,), 0), ((1, 0), 0)), (((1,), 0),)), 1, 1)
        self.assert_bound(problem, 1, 1, 0, 2)

    def test_kinds_of_values(self):
        for first in (0, 3):
            found = plan(EXAMPLE, SETUP, first)
            self.assertIs(type(found), tuple)
            self.assertEqual([type(number) for number in found], [int] * 4)


class Unchanged(Case):
    def test_what_was_passed_is_unchanged(self):
        for setup in ((2, 1, 1), (1, 2, 3)):
            self.assert_unchanged(events, MIXED, setup, 0)
            self.assert_unchanged(plan, MIXED, setup, 0)

    def test_lists_would_be_unchanged(self):
        problem = [[5, 0], [[[[0, 1], 9]], [], [[[1], 5], [[0], 0]]], 2, 3]
        self.assert_unchanged(events, problem, [2, 1, 1], 0)
        self.assert_unchanged(plan, problem, [2, 1, 1], 0)


if __name__ == "__main__":
    unittest.main()
