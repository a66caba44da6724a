"""The interface's len, iteration and == of runs; the last sentence of point 18."""

import unittest
from itertools import permutations
from unittest.mock import MagicMock

from rowsahead.events import events
from rowsahead.runs import Run
from rowsahead.training import train
from tests.helper import (
    EXAMPLE, NOT_INTEGERS, PICKS, RUNS, SETUP, SHARED, Case, advance, moved, picture,
)


class EqualityCase(Case):
    def assert_equal(self, run, other):
        for one, another in ((run, other), (other, run), (run, run)):
            self.assertIs(one == another, True)
            self.assertIs(one != another, False)

    def assert_different(self, run, other):
        for one, another in ((run, other), (other, run)):
            self.assertIs(one == another, False)
            self.assertIs(one != another, True)


class Events(EqualityCase):
    def test_new_runs(self):
        for problem, setup, first in RUNS:
            self.assert_equal(Run(problem, setup, first), Run(problem, setup, first))

    def test_same_events_in_another_order(self):
        for problem, setup, first in RUNS:
            runs = []
            for pick in PICKS:
                run = Run(problem, setup, first)
                advance(run, pick)
                runs.append(run)
            for one, another in permutations(runs, 2):
                self.assertNotEqual(list(one), list(another))
                self.assert_equal(one, another)
                self.assertEqual(picture(one)[:-1], picture(another)[:-1])

    def test_same_events_in_the_middle_of_a_run(self):
        some = (("request", 0, 0), ("compute", 1, 0), ("request", 1, 0), ("read", 0, 0))
        orders = [order for order in permutations(some)
                  if order.index(some[0]) < order.index(some[3])]
        self.assertEqual(len(orders), 12)
        for order in orders:
            self.assert_equal(moved(EXAMPLE, SETUP, 0, *order), moved(EXAMPLE, SETUP, 0, *some))

    def test_other_events(self):
        run = moved(EXAMPLE, SETUP, 0, ("request", 0, 0))
        self.assert_different(run, Run(EXAMPLE, SETUP, 0))
        self.assert_different(run, moved(EXAMPLE, SETUP, 0, ("request", 1, 0)))
        self.assert_different(run, moved(EXAMPLE, SETUP, 0, ("compute", 1, 0)))
        self.assert_different(run, moved(EXAMPLE, SETUP, 0, ("request", 0, 0), ("read", 0, 0)))

    def test_each_step_makes_a_difference(self):
        run, other = Run(SHARED, (2, 1, 1), 0), Run(SHARED, (2, 1, 1), 0)
        while run.enabled():
            run.step(run.enabled()[0])
            self.assert_different(run, other)
            other.step(other.enabled()[0])
            self.assert_equal(run, other)


class Beginnings(EqualityCase):
    def test_other_problems(self):
        rows, batches, divisor, clip = EXAMPLE
        for other in (((5, 0, 3), batches, divisor, clip), (rows, batches[:2], divisor, clip),
                      (rows, batches[:2] + ((((0, 2), 5),),), divisor, clip),
                      (rows, batches[:2] + ((((2, 0), 4),),), divisor, clip),
                      (rows, batches, 3, clip), (rows, batches, divisor, 4)):
            self.assert_different(Run(EXAMPLE, SETUP, 0), Run(other, SETUP, 0))

    def test_other_setups(self):
        for setup in ((1, 1, 1), (2, 2, 1), (2, 1, 2)):
            self.assert_different(Run(EXAMPLE, SETUP, 0), Run(EXAMPLE, setup, 0))
            self.assert_different(Run(EXAMPLE, SETUP, 3), Run(EXAMPLE, setup, 3))

    def test_other_first_batches(self):
        for first, other in permutations(range(4), 2):
            self.assert_different(Run(EXAMPLE, SETUP, first), Run(EXAMPLE, SETUP, other))
        # Their checkpoints are equal, but not the batches with which they began.
        run = Run(SHARED, SETUP, 0)
        run.save(1)
        other = Run(SHARED, SETUP, 1)
        self.assertEqual(run.checkpoint(), other.checkpoint())
        self.assert_different(run, other)


class Checkpoints(EqualityCase):
    def saved_run(self, problem, batch):
        """Return a run with a checkpoint of a batch, which must be found in both of two runs."""
        run, other = Run(problem, SETUP, 0), Run(problem, SETUP, 0)
        run.save(batch)
        self.assert_different(run, other)
        other.save(batch)
        self.assert_equal(run, other)
        return run

    def test_complete_ones(self):
        run, other = self.saved_run(SHARED, 1), self.saved_run(SHARED, 1)
        run.save(0)
        self.assert_different(run, other)
        self.assert_equal(run, Run(SHARED, SETUP, 0))

    def test_ones_that_are_under_way(self):
        self.assert_different(self.saved_run(EXAMPLE, 2), self.saved_run(EXAMPLE, 3))

    def test_complete_and_under_way(self):
        for events_before in range(0, 20, 3):
            run, other = Run(EXAMPLE, SETUP, 0), Run(EXAMPLE, SETUP, 0)
            run.save(1)
            advance(run, PICKS[2], events_before)
            advance(other, PICKS[2], events_before)
            self.assert_different(run, other)
            if other.settled() == 0 and max([row[1] for row in other.rows()[:2]]) == 0:
                # Begun later, it has kept no other values.
                other.save(1)
                self.assert_equal(run, other)

    def test_complete_ones_at_different_times(self):
        run, other = Run(EXAMPLE, SETUP, 0), Run(EXAMPLE, SETUP, 0)
        run.save(3)
        run.play()
        other.play()
        self.assert_different(run, other)
        other.save(3)
        self.assert_equal(run, other)


class Restarts(EqualityCase):
    def test_run_that_began_with_the_batch_of_the_checkpoint(self):
        for setup in ((2, 1, 1), (4, 2, 3)):
            run = Run(EXAMPLE, SETUP, 0)
            run.save(2)
            run.play()
            run.restart(setup)
            self.assert_equal(run, Run(EXAMPLE, setup, 2))
            self.assert_different(run, Run(EXAMPLE, (1, 1, 1), 2))
            other = Run(EXAMPLE, setup, 2)
            self.assertEqual(other.checkpoint(), (2, train(EXAMPLE, 2)))
            advance(run, PICKS[1])
            self.assert_different(run, other)
            advance(other, PICKS[0])
            self.assert_equal(run, other)

    def test_events_before_a_restart_do_not_matter(self):
        run, other = Run(EXAMPLE, SETUP, 0), Run(EXAMPLE, SETUP, 0)
        advance(run, PICKS[1], 9)
        run.restart(SETUP)
        self.assert_equal(run, other)
        run.save(1)
        run.restart(SETUP)
        self.assert_equal(run, other)


class OtherValues(EqualityCase):
    def test_they_are_no_runs(self):
        run = moved(EXAMPLE, SETUP, 0, ("request", 1, 0))
        # Not all of them could be asked what they are equal to themselves.
        for other in NOT_INTEGERS + (0, -1, 1, EXAMPLE, list(run), tuple(run), run.checkpoint(), Run,
                                     MagicMock(spec=Run)):
            self.assertIs(run == other, False)
            self.assertIs(run != other, True)


class Unchanged(EqualityCase):
    def test_comparing_changes_nothing(self):
        run, other = Run(SHARED, (3, 2, 2), 0), Run(SHARED, (3, 2, 2), 0)
        run.save(3)
        other.save(3)
        advance(run, PICKS[0], 30)
        advance(other, PICKS[2], 30)
        before, before_of_other = picture(run), picture(other)
        for one in (run, other):
            for another in (run, other, None, 3):
                self.assertIs(one == another, one is another)
        self.assertEqual((picture(run), picture(other)), (before, before_of_other))


class Iteration(Case):
    def test_events_in_the_order_in_which_they_took_place(self):
        for problem, setup, first in RUNS:
            for pick in PICKS:
                run, log = Run(problem, setup, first), []
                self.assertEqual((len(run), list(run)), (0, []))
                while run.enabled():
                    log.append(pick(run.enabled(), len(log)))
                    run.step(log[-1])
                    self.assertEqual((len(run), list(run)), (len(log), log))
                self.assertEqual(sorted(log), sorted(events(problem, setup, first)))

    def test_several_iterations_at_once(self):
        run = moved(EXAMPLE, SETUP, 0, ("request", 1, 0), ("compute", 1, 0))
        self.assertEqual(
            [(one, another) for one in run for another in run],
            [(one, another) for one in list(run) for another in list(run)])
        self.assertEqual([*run], [("request", 1, 0), ("compute", 1, 0)])
        self.assertIn(("request", 1, 0), run)
        self.assertNotIn(("request", 0, 0), run)

    def test_restart(self):
        run = Run(EXAMPLE, SETUP, 0)
        run.save(1)
        run.play()
        self.assertEqual((len(run), tuple(run)), (33, events(EXAMPLE, SETUP, 0)))
        run.restart(SETUP)
        self.assertEqual((len(run), list(run)), (0, []))
        run.step(("request", 0, 1))
        self.assertEqual((len(run), list(run)), (1, [("request", 0, 1)]))

    def test_what_does_not_take_place(self):
        run = moved(EXAMPLE, SETUP, 0, ("request", 1, 0))
        run.foresee(("request", 0, 0))
        with run.tried():
            run.play()
        run.save(1)
        self.assertEqual((len(run), list(run)), (1, [("request", 1, 0)]))

    def test_list_of_the_events_is_new(self):
        run = moved(EXAMPLE, SETUP, 0, ("request", 1, 0))
        list(run).append(("read", 1, 0))
        self.assertEqual((len(run), list(run)), (1, [("request", 1, 0)]))


if __name__ == "__main__":
    unittest.main()
