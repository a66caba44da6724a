"""Point 20: checkpoints and restarts."""

import unittest

from rowsahead.errors import BadSetup, CheckpointUnderWay, TooLate
from rowsahead.events import events
from rowsahead.runs import Run
from rowsahead.training import train
from tests.helper import (
    EXAMPLE, NOT_TUPLES, PICKS, RUNS, SETUP, SHARED, Case, advance, is_under_way, moved, picture,
)

# Row 0 is used in each batch: it has the values 0, 10, 30 and 60. Row 1 is used in batch 0 alone,
# by the other trainer: it has the values 0 and 5.
FAST = ((0, 0), ((((0,), 10), ((1,), 5)), (((0,), 30),), (((0,), 60),)), 1, 100)
WIDE = (2, 20, 20)
# As long as it does not take place, the settled batch is 0.
HELD = ("update", 1, 0, 1)


def play_without(run, held):
    """Let all events take place that need not wait for the one that is held."""
    while left := [event for event in run.enabled() if event != held]:
        run.step(left[0])


class CheckpointCase(Case):
    def assert_not_begun(self, run, batch, error):
        before = picture(run)
        with self.assertRaises(error):
            run.save(batch)
        self.assertEqual(picture(run), before)


class CompleteAtOnce(CheckpointCase):
    def test_new_runs(self):
        for first in range(4):
            run = Run(EXAMPLE, SETUP, first)
            self.assertEqual(run.checkpoint(), (first, train(EXAMPLE, first)))
            self.assertIs(is_under_way(run), False)
            self.assertIs(run.save(first), True)
            self.assertEqual(run.checkpoint(), (first, train(EXAMPLE, first)))
            self.assertIs(is_under_way(run), False)

    def test_batches_that_are_settled_without_an_event(self):
        # In batch 0 no row is used.
        run = Run(SHARED, SETUP, 0)
        for batch in (1, 0, 1):
            self.assertIs(run.save(batch), True)
            self.assertEqual(run.checkpoint(), (batch, (9, -4, 0, 7, 3)))
        self.assertIs(run.save(2), False)
        self.assertEqual(run.checkpoint(), (1, (9, -4, 0, 7, 3)))

    def test_settled_batch_in_the_middle(self):
        run = moved(EXAMPLE, SETUP, 0, *[
            event for event in events(EXAMPLE, SETUP, 0) if event[2] < 2])
        self.assertEqual(run.settled(), 2)
        self.assertIs(run.save(2), True)
        self.assertEqual(run.checkpoint(), (2, (4, 3, 2)))

    def test_end_of_a_run(self):
        run = Run(EXAMPLE, SETUP, 0)
        run.play()
        self.assertEqual(run.checkpoint(), (0, (5, 0, 2)))
        self.assertIs(run.save(3), True)
        self.assertEqual(run.checkpoint(), (3, (3, 3, 1)))

    def test_before_all_is_written(self):
        run = moved(EXAMPLE, SETUP, 0, *[
            event for event in events(EXAMPLE, SETUP, 0)
            if event[2] < 2 or event[0] not in ("write", "ack")])
        self.assertEqual([row[2:] for row in run.rows()], [(3, 5), (3, 3), (1, 2)])
        self.assertIs(run.save(3), True)
        self.assertEqual(run.checkpoint(), (3, (3, 3, 1)))


class CompleteLater(CheckpointCase):
    def test_next_batch(self):
        run = Run(EXAMPLE, SETUP, 0)
        self.assertIs(run.save(1), False)
        while run.settled() == 0:
            self.assertIs(is_under_way(run), True)
            self.assertEqual(run.checkpoint(), (0, (5, 0, 2)))
            run.step(run.enabled()[0])
        self.assertIs(is_under_way(run), False)
        self.assertEqual(run.checkpoint(), (1, (7, 2, 2)))
        run.play()
        self.assertEqual(run.checkpoint(), (1, (7, 2, 2)))

    def assert_saved_while_held(self, batch, table):
        run = Run(FAST, WIDE, 0)
        self.assertIs(run.save(batch), False)
        play_without(run, HELD)
        self.assertEqual(run.rows(), (("home", 3, 60, 60), ("cached", 0, 0, 0)))
        self.assertEqual(run.checkpoint(), (0, (0, 0)))
        self.assertIs(is_under_way(run), True)
        self.assertEqual(run.step(HELD), (5, 5))
        self.assertEqual(run.settled(), 3)
        self.assertEqual(run.checkpoint(), (batch, table))
        self.assertIs(is_under_way(run), False)

    def test_value_is_kept_before_the_first_batch_that_does_not_belong_to_it(self):
        self.assert_saved_while_held(1, (10, 5))
        self.assert_saved_while_held(2, (30, 5))
        self.assert_saved_while_held(3, (60, 5))

    def test_begun_while_a_row_is_ahead(self):
        run = Run(FAST, WIDE, 0)
        while run.rows()[0][1] < 2:
            run.step([event for event in run.enabled() if event != HELD][0])
        self.assertEqual(run.rows()[0][:3], ("cached", 2, 30))
        self.assertIs(run.save(2), False)
        play_without(run, HELD)
        run.step(HELD)
        self.assertEqual(run.checkpoint(), (2, (30, 5)))

    def test_kept_values_are_those_of_one_checkpoint(self):
        # The value 10 that was kept for the first one is not that of the second one.
        run = Run(FAST, WIDE, 0)
        run.save(1)
        while run.rows()[0][1] < 2:
            run.step([event for event in run.enabled() if event != HELD][0])
        while ("update", 1, 0, 1) not in run.enabled():
            run.step([event for event in run.enabled() if event[0] != "update"][0])
        run.step(HELD)
        self.assertEqual(run.checkpoint(), (1, (10, 5)))
        self.assertIs(run.save(2), True)
        self.assertEqual(run.checkpoint(), (2, (30, 5)))
        self.assertIs(run.save(3), False)
        run.play()
        self.assertEqual(run.checkpoint(), (3, (60, 5)))

    def test_rows_that_are_not_used_have_their_values(self):
        run = Run(SHARED, SETUP, 0)
        run.save(4)
        run.play()
        self.assertEqual(run.checkpoint(), (4, train(SHARED, 4)))
        self.assertEqual(run.checkpoint()[1][4], 3)

    def test_several_checkpoints_one_behind_the_other(self):
        run = Run(EXAMPLE, SETUP, 0)
        for batch in (1, 2, 3):
            self.assertIs(run.save(batch), False)
            while run.settled() < batch:
                run.step(run.enabled()[-1])
            self.assertEqual(run.checkpoint(), (batch, train(EXAMPLE, batch)))

    def test_beyond_the_number_of_batches(self):
        run = Run(EXAMPLE, SETUP, 0)
        self.assertIs(run.save(4), False)
        run.play()
        self.assertEqual(run.checkpoint(), (0, (5, 0, 2)))
        self.assertIs(is_under_way(run), True)

    def test_checkpoints_change_no_event(self):
        for problem, setup, first in RUNS:
            run, other = Run(problem, setup, first), Run(problem, setup, first)
            run.save(len(problem[1]))
            while other.enabled():
                self.assertEqual(run.enabled(), other.enabled())
                self.assertEqual(advance(run, PICKS[2], 1), advance(other, PICKS[2], 1))
                self.assertEqual((run.rows(), run.positions()), (other.rows(), other.positions()))

    def test_in_whatever_order(self):
        for problem, setup, first in RUNS:
            for batch in range(first, len(problem[1]) + 1):
                table = train(problem, batch)
                for pick in PICKS:
                    run = Run(problem, setup, first)
                    is_complete = run.save(batch)
                    while not is_complete:
                        self.assertIs(is_under_way(run), True)
                        self.assertLess(run.settled(), batch)
                        self.assertEqual(run.checkpoint(), (first, train(problem, first)))
                        advance(run, pick, 1)
                        is_complete = run.settled() >= batch
                    self.assertEqual(run.checkpoint(), (batch, table))
                    self.assertIs(is_under_way(run), False)

    def test_begun_at_any_time(self):
        for problem, setup, first in RUNS:
            for pick in PICKS[1:3]:
                run = Run(problem, setup, first)
                while run.enabled():
                    for batch in range(first, len(problem[1]) + 1):
                        self.assert_begun_or_too_late(problem, run, batch)
                    advance(run, pick, 4)

    def assert_begun_or_too_late(self, problem, run, batch):
        applied = [t for kind, row, t, *_ in run if kind == "update" and run.rows()[row][1] > t]
        with run.tried():
            if max(applied, default=-1) >= batch:
                self.assert_not_begun(run, batch, TooLate)
            else:
                self.assertIs(run.save(batch), run.settled() >= batch)
                run.play()
                self.assertEqual(run.checkpoint(), (batch, train(problem, batch)))


class NotBegun(CheckpointCase):
    def test_less_than_the_first_batch(self):
        for first in range(4):
            run = Run(EXAMPLE, SETUP, first)
            for batch in range(-3, first):
                self.assert_not_begun(run, batch, TooLate)
        run = Run(SHARED, SETUP, 1)
        self.assert_not_begun(run, 0, TooLate)

    def test_batch_that_was_applied_to_some_row(self):
        run = moved(EXAMPLE, SETUP, 0, *events(EXAMPLE, SETUP, 0)[:10])
        self.assertEqual(run.foresee(("update", 0, 0, 0)), (2, 7))
        with run.tried():
            self.assertIs(run.save(0), True)
        run.step(("update", 0, 0, 0))
        self.assertEqual(run.settled(), 0)
        self.assert_not_begun(run, 0, TooLate)
        self.assertIs(run.save(1), False)

    def test_later_batch_that_was_applied_to_some_row(self):
        run = Run(FAST, WIDE, 0)
        while run.rows()[0][1] < 2:
            run.step([event for event in run.enabled() if event != HELD][0])
        self.assertEqual(run.settled(), 0)
        self.assert_not_begun(run, 0, TooLate)
        self.assert_not_begun(run, 1, TooLate)
        self.assertIs(run.save(2), False)

    def test_end_of_a_run(self):
        run = Run(EXAMPLE, SETUP, 0)
        run.play()
        for batch in (-1, 0, 1, 2):
            self.assert_not_begun(run, batch, TooLate)

    def test_batch_without_rows_at_the_end(self):
        # After batch 1 no row is used, so that no batch from 2 on is applied.
        run = Run(((1,), ((((0,), 4),), (((0,), 9),), (), ()), 1, 9), (1, 1, 1), 0)
        run.play()
        self.assert_not_begun(run, 1, TooLate)
        for batch in (2, 3, 4, 2):
            self.assertIs(run.save(batch), True)
            self.assertEqual(run.checkpoint(), (batch, (9,)))

    def test_another_one_is_under_way(self):
        run = Run(EXAMPLE, SETUP, 0)
        run.save(2)
        for batch in (0, 1, 2, 3):
            self.assert_not_begun(run, batch, CheckpointUnderWay)
        while run.settled() < 2:
            self.assert_not_begun(run, 3, CheckpointUnderWay)
            run.step(run.enabled()[0])
        self.assertIs(run.save(3), False)

    def test_under_way_comes_ahead_of_too_late(self):
        run = Run(EXAMPLE, SETUP, 1)
        run.save(3)
        self.assert_not_begun(run, 0, CheckpointUnderWay)
        while run.settled() < 2:
            run.step(run.enabled()[0])
        self.assert_not_begun(run, 1, CheckpointUnderWay)
        run.play()
        self.assert_not_begun(run, 1, TooLate)


class Restarts(CheckpointCase):
    def assert_new(self, run, problem, setup, first):
        new = Run(problem, setup, first)
        self.assertEqual(picture(run), picture(new))
        self.assertEqual(run.first, first)
        self.assertEqual(len(run), 0)

    def test_run_without_another_checkpoint_begins_as_before(self):
        for first in range(4):
            run = Run(EXAMPLE, SETUP, first)
            advance(run, PICKS[2], 7)
            self.assertEqual(run.restart(SETUP), first)
            self.assert_new(run, EXAMPLE, SETUP, first)

    def test_other_trainers_in_the_middle_of_a_run(self):
        run = Run(SHARED, (2, 2, 2), 0)
        run.save(2)
        while run.settled() < 2:
            run.step(run.enabled()[-1])
        advance(run, PICKS[1], 5)
        for setup in ((3, 1, 1), (4, 20, 20), (1, 1, 5)):
            with run.tried():
                self.assertEqual(run.restart(setup), 2)
                self.assert_new(run, SHARED, setup, 2)
                self.assertEqual(run.positions(), (2,) * setup[0])
                self.assertEqual(run.play(), events(SHARED, setup, 2))
                self.assertEqual(tuple([row[3] for row in run.rows()]), train(SHARED, 4))
                self.assertEqual(run.checkpoint(), (2, train(SHARED, 2)))

    def test_finished_run(self):
        run = Run(EXAMPLE, SETUP, 0)
        run.save(1)
        run.play()
        self.assertEqual(run.restart((3, 2, 2)), 1)
        self.assert_new(run, EXAMPLE, (3, 2, 2), 1)
        run.play()
        run.save(3)
        self.assertEqual(run.restart(SETUP), 3)
        self.assert_new(run, EXAMPLE, SETUP, 3)
        self.assertIs(run.finished(), True)
        self.assertEqual(run.restart(SETUP), 3)

    def test_checkpoint_that_is_under_way_is_lost(self):
        run = Run(FAST, WIDE, 0)
        run.save(1)
        play_without(run, HELD)
        self.assertEqual(run.restart(WIDE), 0)
        self.assert_new(run, FAST, WIDE, 0)
        run.play()
        self.assertEqual(run.checkpoint(), (0, (0, 0)))
        # What was kept before is lost, too.
        run.restart(WIDE)
        self.assertIs(run.save(2), False)
        run.play()
        self.assertEqual(run.checkpoint(), (2, (30, 5)))

    def test_checkpoint_before_the_new_first_batch(self):
        run = Run(EXAMPLE, SETUP, 0)
        run.save(2)
        run.play()
        run.restart(SETUP)
        self.assert_not_begun(run, 1, TooLate)
        self.assert_not_begun(run, 0, TooLate)
        self.assertIs(run.save(2), True)
        self.assertIs(run.save(3), False)

    def test_earlier_checkpoint_in_place_of_a_later_one(self):
        run = Run(SHARED, SETUP, 0)
        run.save(1)
        run.save(0)
        self.assertEqual(run.restart(SETUP), 0)
        run.save(1)
        self.assertEqual(run.restart((1, 1, 1)), 1)
        self.assert_new(run, SHARED, (1, 1, 1), 1)

    def test_bad_setup(self):
        run = Run(EXAMPLE, SETUP, 0)
        advance(run, PICKS[0], 12)
        run.save(2)
        before = picture(run)
        for setup in NOT_TUPLES + ((), (2, 1), (0, 1, 1), (5, 1, 1), (1, 0, 1), (1, 21, 1),
                                   (1, 1, 0), (1, 1, 21), (True, 1, 1), [2, 1, 1], (2, 1, 1, 1)):
            with self.assertRaises(BadSetup):
                run.restart(setup)
            self.assertEqual(picture(run), before)

    def test_restarts_in_whatever_order(self):
        setups = ((1, 1, 1), (4, 2, 3), (2, 20, 1), (3, 1, 20))
        for problem, setup, first in RUNS:
            end = len(problem[1])
            for pick in PICKS:
                run = Run(problem, setup, first)
                for turn, batch in enumerate(range(first, end + 1)):
                    run.save(batch)
                    while run.settled() < batch:
                        advance(run, pick, 1)
                    advance(run, pick, turn * 3)
                    self.assertEqual(run.restart(setups[turn % 4]), batch)
                    self.assert_new(run, problem, setups[turn % 4], batch)
                self.assertEqual(tuple([row[3] for row in run.rows()]), train(problem, end))


class Unchanged(CheckpointCase):
    def test_what_was_passed_is_unchanged(self):
        run = Run(EXAMPLE, SETUP, 0)
        refused = [2, 1, 1]
        with self.assertRaises(BadSetup):
            run.restart(refused)
        self.assertEqual(refused, [2, 1, 1])
        table = run.checkpoint()[1]
        run.save(1)
        run.play()
        self.assertEqual(table, (5, 0, 2))


if __name__ == "__main__":
    unittest.main()
