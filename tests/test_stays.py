"""Points 7 and 8: users of rows, uses of rows, and stays; point 2: what is passed is unchanged."""

import unittest

from rowsahead.stays import stays, users, uses
from tests.helper import EXAMPLE, Case, used_in

# Batch 0 has a sample for each index from 0 to 5, batch 1 a single one, batch 2 none; no sample
# looks up row 5.
SHARED = (
    (0,) * 6,
    (
        (((1, 0), 9), ((1, 2), 9), ((0,), 9), ((3,), 9), ((1,), 9), ((3, 0), 9)),
        (((4,), 9),),
        (),
    ),
    1, 1,
)
GAPS = used_in(10, (1, 2, 5, 6, 9), ())


class Users(unittest.TestCase):
    def assert_users(self, trainers, batch, expected):
        for row, found in enumerate(expected):
            with self.subTest(trainers=trainers, batch=batch, row=row):
                self.assertEqual(users(SHARED, (trainers, 1, 1), row, batch), found)

    def test_single_trainer_uses_all_rows(self):
        self.assert_users(1, 0, [(0,), (0,), (0,), (0,), (), ()])

    def test_trainers_take_turns(self):
        self.assert_users(2, 0, [(0, 1), (0, 1), (1,), (1,), (), ()])
        self.assert_users(3, 0, [(0, 2), (0, 1), (1,), (0, 2), (), ()])

    def test_users_are_ascending_though_samples_are_not(self):
        self.assert_users(4, 0, [(0, 1, 2), (0, 1), (1,), (1, 3), (), ()])

    def test_more_trainers_than_samples(self):
        for trainers in (1, 2, 3, 4):
            self.assert_users(trainers, 1, [(), (), (), (), (0,), ()])

    def test_batch_without_samples(self):
        for trainers in (1, 2, 3, 4):
            self.assert_users(trainers, 2, [()] * 6)

    def test_all_four_trainers(self):
        problem = ((0, 0), ((((1,), 0), ((1, 0), 0), ((1,), 0), ((0, 1), 0)),), 1, 1)
        self.assertEqual(users(problem, (4, 1, 1), 1, 0), (0, 1, 2, 3))
        self.assertEqual(users(problem, (4, 1, 1), 0, 0), (1, 3))
        self.assertEqual(users(problem, (2, 1, 1), 0, 0), (1,))

    def test_every_row_of_a_sample_counts(self):
        problem = ((0,) * 5, ((((2, 4, 1, 0), 0),),), 1, 1)
        found = [users(problem, (3, 1, 1), row, 0) for row in range(5)]
        self.assertEqual(found, [(0,), (0,), (0,), (), (0,)])

    def test_window_and_lead_do_not_matter(self):
        self.assertEqual(users(SHARED, (4, 20, 20), 3, 0), (1, 3))

    def test_kinds_of_values(self):
        found = users(SHARED, (4, 1, 1), 0, 0)
        self.assertIs(type(found), tuple)
        self.assertEqual([type(user) for user in found], [int, int, int])


class Uses(unittest.TestCase):
    def test_first_batches(self):
        whole = (1, 2, 5, 6, 9)
        expected = [whole, whole, whole[1:], whole[2:], whole[2:], whole[2:], whole[3:],
                    whole[4:], whole[4:], whole[4:], ()]
        self.assertEqual([uses(GAPS, first, 0) for first in range(11)], expected)

    def test_row_that_is_never_used(self):
        self.assertEqual([uses(GAPS, first, 1) for first in range(11)], [()] * 11)

    def test_rows_of_all_samples_count_once(self):
        found = [uses(SHARED, 0, row) for row in range(6)]
        self.assertEqual(found, [(0,), (0,), (0,), (0,), (1,), ()])
        self.assertEqual([uses(EXAMPLE, 0, row) for row in range(3)], [(0, 1, 2), (0, 1), (2,)])
        self.assertEqual([uses(EXAMPLE, 2, row) for row in range(3)], [(2,), (), (2,)])

    def test_kinds_of_values(self):
        found = uses(GAPS, 0, 0)
        self.assertIs(type(found), tuple)
        self.assertEqual([type(batch) for batch in found], [int] * 5)


class Stays(unittest.TestCase):
    def assert_stays(self, problem, window, first, expected):
        for trainers, lead in ((1, 1), (4, 20)):
            with self.subTest(window=window, first=first, trainers=trainers):
                self.assertEqual(stays(problem, (trainers, window, lead), first), tuple(expected))

    def test_example_of_the_document(self):
        self.assert_stays(EXAMPLE, 1, 0, [(0, 0, 2), (1, 0, 1), (2, 2, 2)])

    def test_uses_window_batches_apart_and_one_more(self):
        problem = used_in(8, (0, 2, 5))
        self.assert_stays(problem, 1, 0, [(0, 0, 0), (0, 2, 2), (0, 5, 5)])
        self.assert_stays(problem, 2, 0, [(0, 0, 2), (0, 5, 5)])
        self.assert_stays(problem, 3, 0, [(0, 0, 5)])
        self.assert_stays(problem, 4, 0, [(0, 0, 5)])

    def test_batches_next_to_each_other(self):
        self.assert_stays(used_in(4, (0, 1, 2, 3)), 1, 0, [(0, 0, 3)])
        self.assert_stays(used_in(4, (1, 2)), 1, 0, [(0, 1, 2)])
        self.assert_stays(used_in(4, (0, 3)), 1, 0, [(0, 0, 0), (0, 3, 3)])

    def test_window_counts_from_the_use_before_and_not_from_the_first_one(self):
        self.assert_stays(used_in(10, (1, 3, 5, 7, 9)), 2, 0, [(0, 1, 9)])
        self.assert_stays(used_in(10, (1, 3, 6, 8)), 2, 0, [(0, 1, 3), (0, 6, 8)])
        self.assert_stays(used_in(10, (1, 4, 6, 9)), 2, 0, [(0, 1, 1), (0, 4, 6), (0, 9, 9)])

    def test_first_batch(self):
        self.assert_stays(GAPS, 1, 0, [(0, 1, 2), (0, 5, 6), (0, 9, 9)])
        self.assert_stays(GAPS, 2, 1, [(0, 1, 2), (0, 5, 6), (0, 9, 9)])
        self.assert_stays(GAPS, 2, 2, [(0, 2, 2), (0, 5, 6), (0, 9, 9)])
        self.assert_stays(GAPS, 3, 2, [(0, 2, 9)])
        self.assert_stays(GAPS, 3, 3, [(0, 5, 9)])
        self.assert_stays(GAPS, 2, 6, [(0, 6, 6), (0, 9, 9)])
        self.assert_stays(GAPS, 20, 9, [(0, 9, 9)])

    def test_first_batch_that_is_the_number_of_batches(self):
        self.assert_stays(GAPS, 1, 10, [])
        self.assert_stays(EXAMPLE, 20, 3, [])

    def test_greatest_distance(self):
        problem = used_in(20, (0, 19))
        self.assert_stays(problem, 18, 0, [(0, 0, 0), (0, 19, 19)])
        self.assert_stays(problem, 19, 0, [(0, 0, 19)])
        self.assert_stays(problem, 20, 0, [(0, 0, 19)])

    def test_rows_and_then_batches_are_ascending(self):
        problem = used_in(7, (3, 6), (), (0, 1, 4), (0,), (0, 3, 6))
        expected = [(0, 3, 3), (0, 6, 6), (2, 0, 1), (2, 4, 4), (3, 0, 0),
                    (4, 0, 0), (4, 3, 3), (4, 6, 6)]
        self.assert_stays(problem, 2, 0, expected)
        self.assert_stays(problem, 3, 0, [(0, 3, 6), (2, 0, 4), (3, 0, 0), (4, 0, 6)])

    def test_more_rows_than_batches(self):
        expected = [(row, 0, 0) for row in range(4)] + [(4, 1, 1)]
        self.assert_stays(SHARED, 1, 0, expected)

    def test_rows_that_are_never_used(self):
        self.assert_stays(used_in(3, (), ()), 1, 0, [])

    def test_kinds_of_values(self):
        found = stays(GAPS, (1, 1, 1), 0)
        self.assertIs(type(found), tuple)
        for stay in found:
            self.assertIs(type(stay), tuple)
            self.assertEqual([type(number) for number in stay], [int, int, int])


class Unchanged(Case):
    def test_what_was_passed_is_unchanged(self):
        self.assert_unchanged(users, SHARED, (4, 1, 1), 3, 0)
        self.assert_unchanged(uses, GAPS, 1, 0)
        self.assert_unchanged(stays, GAPS, (2, 2, 1), 1)

    def test_lists_would_be_unchanged(self):
        batches = [[[[0, 1], 9]], [], [[[1], 5], [[0], 0]]]
        self.assert_unchanged(users, [[5, 0], batches, 2, 3], [2, 1, 1], 0, 2)
        self.assert_unchanged(uses, [[5, 0], batches, 2, 3], 0, 1)
        self.assert_unchanged(stays, [[5, 0], batches, 2, 3], [2, 1, 1], 0)


if __name__ == "__main__":
    unittest.main()
