"""Points 4 and 5: which values are problems, and which are setups."""

import copy
import unittest

from rowsahead.errors import BadProblem, BadSetup
from rowsahead.problems import check_problem, check_setup
from tests.helper import EXAMPLE, NOT_INTEGERS, NOT_TUPLES

SAMPLE = ((0, 2), 4)
MILLION = 1000000


def problem(rows=(5, 0, 2, 7, -1), batches=((SAMPLE,), ()), divisor=2, clip=3):
    return (rows, batches, divisor, clip)


def with_batch(batch):
    return problem(batches=((SAMPLE,), batch, ()))


def with_sample(sample):
    return with_batch((SAMPLE, sample))


class Checks(unittest.TestCase):
    """Values are told by their numbers, as some of them cannot be shown or compared."""

    def assert_right(self, check, values):
        for at, value in enumerate(values):
            with self.subTest(at=at):
                self.assertIsNone(check(value))

    def assert_wrong(self, check, error, values):
        for at, value in enumerate(values):
            with self.subTest(at=at):
                with self.assertRaises(error) as caught:
                    check(value)
                self.assertIs(type(caught.exception), error)


class RightProblems(Checks):
    def test_problems(self):
        self.assert_right(check_problem, [problem(), EXAMPLE])

    def test_rows(self):
        few_rows = [problem(rows=(worth,), batches=((),)) for worth in (-MILLION, -1, 0, MILLION)]
        self.assert_right(check_problem, few_rows)
        self.assert_right(check_problem, [problem(rows=tuple(range(20))), problem(rows=(7,) * 20)])

    def test_batches(self):
        self.assert_right(check_problem, [problem(batches=((),) * many) for many in range(1, 21)])
        self.assert_right(check_problem, [problem(batches=((SAMPLE,),) * 20)])

    def test_samples_of_a_batch(self):
        self.assert_right(check_problem, [with_batch((SAMPLE,) * many) for many in range(7)])

    def test_rows_of_a_sample(self):
        lookups = [(0,), (4,), (0, 1), (1, 0), (4, 0, 2), (0, 1, 2, 3), (3, 0, 4, 1), (4, 3, 2, 1)]
        self.assert_right(check_problem, [with_sample((rows, 4)) for rows in lookups])
        last = ((((19, 18, 1, 0), 4), ((19,), 4)),)
        self.assert_right(check_problem, [problem(rows=(0,) * 20, batches=last)])

    def test_target_of_a_sample(self):
        self.assert_right(
            check_problem, [with_sample(((1,), target)) for target in (-MILLION, -1, 0, MILLION)])

    def test_divisor_and_clip(self):
        self.assert_right(check_problem, [problem(divisor=n) for n in (1, 2, 999, 1000)])
        self.assert_right(check_problem, [problem(clip=n) for n in (1, 2, 999, 1000)])


class WrongProblems(Checks):
    def assert_no_problems(self, values):
        self.assert_wrong(check_problem, BadProblem, values)

    def test_not_a_tuple(self):
        self.assert_no_problems(NOT_TUPLES + (list(problem()), dict(enumerate(problem()))))

    def test_too_few_and_too_many_items(self):
        whole = problem()
        self.assert_no_problems([(), whole[:1], whole[:3], whole[1:], whole + (1,), whole * 2])

    def test_items_in_another_order(self):
        rows, batches, divisor, clip = problem()
        self.assert_no_problems([(batches, rows, divisor, clip), (divisor, clip, rows, batches)])

    def test_rows(self):
        self.assert_no_problems([problem(rows=rows) for rows in NOT_TUPLES])
        self.assert_no_problems([problem(rows=[5, 0, 2, 7, -1])])

    def test_number_of_rows(self):
        self.assert_no_problems([problem(rows=(), batches=((),)), problem(rows=(0,) * 21)])

    def test_values_of_rows(self):
        wrong = NOT_INTEGERS + (-MILLION - 1, MILLION + 1, -10 ** 30, 10 ** 30)
        self.assert_no_problems([problem(rows=(5, 0, 2, worth, -1)) for worth in wrong])
        self.assert_no_problems([problem(rows=(worth, 0, 2)) for worth in wrong])
        self.assert_no_problems([problem(rows=(0, 0, worth)) for worth in wrong])

    def test_batches(self):
        self.assert_no_problems([problem(batches=batches) for batches in NOT_TUPLES])
        self.assert_no_problems([problem(batches=[(SAMPLE,), ()])])

    def test_number_of_batches(self):
        self.assert_no_problems([problem(batches=()), problem(batches=((),) * 21)])

    def test_batch(self):
        self.assert_no_problems([with_batch(batch) for batch in NOT_TUPLES])
        self.assert_no_problems([with_batch([SAMPLE]), with_batch({0: SAMPLE})])
        self.assert_no_problems([with_batch((SAMPLE,) * 7)])

    def test_sample(self):
        self.assert_no_problems([with_sample(sample) for sample in NOT_TUPLES])
        self.assert_no_problems([with_sample([(0, 2), 4])])
        self.assert_no_problems(
            [with_sample(sample) for sample in ((), ((0, 2),), (4,), ((0, 2), 4, 4), (4, (0, 2)))])

    def test_last_sample_of_last_batch(self):
        self.assert_no_problems([problem(batches=((SAMPLE,),) * 19 + ((SAMPLE,) * 5 + ((0,),),))])

    def test_rows_of_a_sample(self):
        self.assert_no_problems([with_sample((rows, 4)) for rows in NOT_TUPLES])
        self.assert_no_problems([with_sample(([0, 2], 4))])
        self.assert_no_problems([with_sample(((), 4)), with_sample(((0, 1, 2, 3, 4), 4))])

    def test_indices_of_rows(self):
        wrong = NOT_INTEGERS + (-1, -5, 5, 6, 19, 20, 10 ** 30, -10 ** 30)
        self.assert_no_problems([with_sample(((row,), 4)) for row in wrong])
        self.assert_no_problems([with_sample(((0, row, 2), 4)) for row in wrong])
        self.assert_no_problems([with_sample(((3, 2, 0, row), 4)) for row in wrong])

    def test_an_index_twice(self):
        for rows in ((0, 0), (4, 1, 4), (3, 3, 1), (2, 0, 1, 2), (2, 0, 1, 1), (3, 3, 3, 3)):
            self.assert_no_problems([with_sample((rows, 4))])

    def test_target(self):
        wrong = NOT_INTEGERS + (-MILLION - 1, MILLION + 1, -10 ** 30, 10 ** 30)
        self.assert_no_problems([with_sample(((1,), target)) for target in wrong])

    def test_divisor_and_clip(self):
        wrong = NOT_INTEGERS + (-1, 0, 1001, -10 ** 30, 10 ** 30)
        self.assert_no_problems([problem(divisor=n) for n in wrong])
        self.assert_no_problems([problem(clip=n) for n in wrong])


class Setups(Checks):
    def test_right_setups(self):
        self.assert_right(check_setup, [(n, 1, 1) for n in range(1, 5)])
        self.assert_right(check_setup, [(1, n, 1) for n in range(1, 21)])
        self.assert_right(check_setup, [(1, 1, n) for n in range(1, 21)])
        self.assert_right(check_setup, [(4, 20, 20), (2, 1, 1), (3, 7, 11)])

    def test_not_a_tuple(self):
        self.assert_wrong(check_setup, BadSetup, NOT_TUPLES + ([2, 1, 1], {0: 2, 1: 1, 2: 1}))

    def test_too_few_and_too_many_items(self):
        values = [(), (1,), (1, 1), (1, 1, 1, 1), (1,) * 6, ((1, 1, 1),)]
        self.assert_wrong(check_setup, BadSetup, values)

    def test_numbers_of_another_kind(self):
        for n in NOT_INTEGERS:
            self.assert_wrong(check_setup, BadSetup, [(n, 1, 1), (1, n, 1), (1, 1, n)])

    def test_numbers_outside_the_limits(self):
        for n in (-10 ** 30, -1, 0, 21, 10 ** 30):
            self.assert_wrong(check_setup, BadSetup, [(n, 1, 1), (1, n, 1), (1, 1, n)])
        self.assert_wrong(check_setup, BadSetup, [(5, 1, 1), (5, 20, 20), (20, 1, 1)])


class Unchanged(unittest.TestCase):
    def test_what_was_checked_is_unchanged(self):
        values = [problem(), list(problem()), problem(rows=[3, 1]), with_sample(([2, 0], 4)),
                  (2, 1, 1), [2, 1, 1]]
        before = copy.deepcopy(values)
        for value in values:
            for check in (check_problem, check_setup):
                try:
                    check(value)
                except (BadProblem, BadSetup):
                    pass
        self.assertEqual(values, before)


if __name__ == "__main__":
    unittest.main()
