"""Point 6: corrections, updates and sequential training; point 2: what is passed is unchanged."""

import unittest

from rowsahead.training import correction, train, updates
from tests.helper import EXAMPLE, Case

# In its first batch the corrections are -2, -3 and 4; one that was computed on a table
# with an earlier one of them in it would be another number.
SHARED = ((10, -3), ((((0,), 4), ((0, 1), 0), ((1, 0), 20)), (), (((1,), 7),)), 3, 5)


def limits(divisor, clip):
    return ((0,), ((),), divisor, clip)


class Corrections(unittest.TestCase):
    def assert_corrections(self, divisor, clip, pairs):
        for target, expected in pairs:
            with self.subTest(divisor=divisor, clip=clip, target=target):
                found = correction(limits(divisor, clip), (0,), ((0,), target))
                self.assertEqual(found, expected)
                self.assertIs(type(found), int)

    def test_quotient_is_the_greatest_integer_not_above(self):
        self.assert_corrections(3, 1000, [(-7, -3), (-6, -2), (-5, -2), (-3, -1), (-2, -1), (-1, -1)])
        self.assert_corrections(3, 1000, [(0, 0), (1, 0), (2, 0), (3, 1), (5, 1), (6, 2), (7, 2)])
        self.assert_corrections(1000, 1000, [(-1, -1), (999, 0), (1000, 1), (-1000, -1), (-1001, -2)])
        self.assert_corrections(1, 1000, [(-7, -7), (7, 7), (0, 0)])

    def test_clip_on_both_sides(self):
        self.assert_corrections(2, 3, [(5, 2), (6, 3), (7, 3), (8, 3), (1000000, 3)])
        self.assert_corrections(2, 3, [(-4, -2), (-5, -3), (-6, -3), (-7, -3), (-8, -3), (-1000000, -3)])
        self.assert_corrections(1, 1, [(2, 1), (1, 1), (0, 0), (-1, -1), (-2, -1)])
        self.assert_corrections(1, 1000, [(1001, 1000), (999, 999), (-999, -999), (-1001, -1000)])

    def test_quotient_is_clipped_and_not_the_error(self):
        self.assert_corrections(50, 3, [(100, 2), (-100, -2), (149, 2), (-101, -3)])

    def test_error_is_target_minus_the_sum_of_the_rows(self):
        problem, table = limits(1, 1000), (7, -20, 300, 4)
        self.assertEqual(correction(problem, table, ((0,), 10)), 3)
        self.assertEqual(correction(problem, table, ((1,), 10)), 30)
        self.assertEqual(correction(problem, table, ((3, 1), 10)), 26)
        self.assertEqual(correction(problem, table, ((2, 0, 3), 10)), -301)
        self.assertEqual(correction(problem, table, ((3, 2, 1, 0), 10)), -281)

    def test_table_that_is_passed_counts_and_not_that_of_the_problem(self):
        self.assertEqual(correction(EXAMPLE, (5, 0, 2), ((0, 1), 9)), 2)
        self.assertEqual(correction(EXAMPLE, (7, 2, 2), ((0, 1), 9)), 0)
        self.assertEqual(correction(EXAMPLE, (7, 3, 2), ((0, 1), 9)), -1)


class Updates(unittest.TestCase):
    def test_samples_that_share_rows(self):
        found = updates(SHARED, SHARED[1][0], (10, -3))
        self.assertIs(type(found), dict)
        self.assertEqual(found, {0: -1, 1: 1})

    def test_some_of_the_samples_of_a_batch(self):
        first, second, third = SHARED[1][0]
        self.assertEqual(updates(SHARED, (first, third), (10, -3)), {0: 2, 1: 4})
        self.assertEqual(updates(SHARED, (second, third), (10, -3)), {0: 1, 1: 1})
        self.assertEqual(updates(SHARED, (third, second, first), (10, -3)), {0: -1, 1: 1})

    def test_samples_that_share_no_rows(self):
        self.assertEqual(updates(EXAMPLE, EXAMPLE[1][1], (7, 2, 2)), {0: -3, 1: 1})

    def test_same_sample_twice(self):
        self.assertEqual(updates(SHARED, (((1,), 9), ((1,), 9)), (10, -3)), {1: 8})

    def test_single_sample(self):
        self.assertEqual(updates(EXAMPLE, (((2, 0), 4),), (5, 0, 2)), {0: -2, 2: -2})

    def test_update_of_nothing_is_there(self):
        self.assertEqual(updates(EXAMPLE, (((2,), 2),), (5, 0, 2)), {2: 0})
        self.assertEqual(updates(EXAMPLE, (((0,), 7), ((0,), 3)), (5, 0, 2)), {0: 0})

    def test_sum_of_corrections_is_not_clipped(self):
        self.assertEqual(updates(EXAMPLE, (((1,), 90),) * 6, (5, 0, 2)), {1: 18})

    def test_no_sample(self):
        self.assertEqual(updates(EXAMPLE, (), (5, 0, 2)), {})

    def test_table_that_is_passed_counts_and_not_that_of_the_problem(self):
        self.assertEqual(updates(EXAMPLE, EXAMPLE[1][0], (7, 3, 2)), {0: -1, 1: -1})

    def test_each_call_returns_a_new_dict(self):
        first = updates(SHARED, SHARED[1][0], (10, -3))
        first[0] = 99
        self.assertEqual(updates(SHARED, SHARED[1][0], (10, -3)), {0: -1, 1: 1})


class Training(unittest.TestCase):
    def assert_tables(self, problem, tables):
        self.assertEqual(len(tables), len(problem[1]) + 1)
        for count, table in enumerate(tables):
            with self.subTest(count=count):
                found = train(problem, count)
                self.assertIs(type(found), tuple)
                self.assertEqual(found, table)

    def test_example_of_the_document(self):
        self.assert_tables(EXAMPLE, [(5, 0, 2), (7, 2, 2), (4, 3, 2), (3, 3, 1)])

    def test_samples_of_a_batch_are_computed_on_the_table_before_it(self):
        self.assert_tables(SHARED, [(10, -3), (9, -2), (9, -2), (9, 1)])

    def test_order_of_the_samples_does_not_matter(self):
        rows, batches, divisor, clip = SHARED
        turned = (rows, (batches[0][::-1],) + batches[1:], divisor, clip)
        self.assert_tables(turned, [(10, -3), (9, -2), (9, -2), (9, 1)])

    def test_order_of_the_batches_matters(self):
        rows, batches, divisor, clip = SHARED
        turned = (rows, batches[::-1], divisor, clip)
        self.assert_tables(turned, [(10, -3), (10, 0), (10, 0), (7, -1)])

    def test_single_row_and_batches_without_samples(self):
        self.assert_tables(((-1000000,), ((),), 1, 1), [(-1000000,), (-1000000,)])
        self.assert_tables(((4,), ((), (((0,), 5),), ()), 1, 1), [(4,), (4,), (5,), (5,)])

    def test_values_may_leave_the_limits_of_a_problem(self):
        batch = (((0, 1), 1000000),) * 6
        problem = ((1000000, -1000000), (batch,), 1, 1000)
        self.assert_tables(problem, [(1000000, -1000000), (1006000, -994000)])

    def test_twenty_batches(self):
        problem = ((0,), ((((0,), 100),),) * 20, 1, 7)
        expected = [(min(7 * count, 100),) for count in range(21)]
        self.assert_tables(problem, expected)


class Unchanged(Case):
    def test_what_was_passed_is_unchanged(self):
        self.assert_unchanged(train, EXAMPLE, 3)
        self.assert_unchanged(train, SHARED, 3)
        self.assert_unchanged(updates, SHARED, SHARED[1][0], (10, -3))
        self.assert_unchanged(correction, SHARED, (10, -3), ((1, 0), 20))

    def test_lists_would_be_unchanged(self):
        self.assert_unchanged(updates, SHARED, [[[0], 4], [[0, 1], 0], [[1, 0], 20]], [10, -3])
        self.assert_unchanged(correction, list(SHARED), [10, -3], [[1, 0], 20])


if __name__ == "__main__":
    unittest.main()
