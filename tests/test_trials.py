"""Point 21: trials, and events that are foreseen."""

import unittest

from rowsahead.errors import BadSetup, CheckpointUnderWay, NotPossible, TooLate
from rowsahead.events import events
from rowsahead.runs import Run
from tests.helper import (
    EXAMPLE, NOT_TUPLES, PICKS, RUNS, SETUP, SHARED, Case, advance, is_under_way, picture,
)


class TrialCase(Case):
    def assert_as_before(self, run, before):
        self.assertEqual(picture(run), before)

    def begun_run(self):
        """Return a run in its middle, with a complete checkpoint and one that is under way."""
        run = Run(SHARED, (3, 2, 2), 0)
        run.save(1)
        while run.settled() < 2:
            run.step(run.enabled()[-1])
        run.save(4)
        advance(run, PICKS[1], 4)
        return run


class Trials(TrialCase):
    def test_value_of_the_with_statement(self):
        run = Run(EXAMPLE, SETUP, 0)
        with run.tried() as tried:
            self.assertIs(tried, run)

    def test_nothing_happens_in_it(self):
        for run in (Run(EXAMPLE, SETUP, 0), Run(EXAMPLE, SETUP, 3), self.begun_run()):
            before = picture(run)
            with run.tried():
                self.assert_as_before(run, before)
            self.assert_as_before(run, before)

    def test_steps(self):
        for problem, setup, first in RUNS:
            run = Run(problem, setup, first)
            while run.enabled():
                before = picture(run)
                for event in run.enabled():
                    with run.tried():
                        run.step(event)
                        self.assertEqual(list(run), before[-1] + [event])
                    self.assert_as_before(run, before)
                advance(run, PICKS[2], 1)

    def test_play_to_the_end(self):
        run = self.begun_run()
        before = picture(run)
        with run.tried() as tried:
            tried.play()
            self.assertIs(run.finished(), True)
            self.assertEqual(run.checkpoint()[0], 4)
        self.assert_as_before(run, before)
        self.assertEqual(run.checkpoint()[0], 1)
        run.play()
        self.assertEqual(run.checkpoint()[0], 4)

    def test_checkpoints(self):
        run = Run(SHARED, SETUP, 0)
        before = picture(run)
        with run.tried():
            self.assertIs(run.save(1), True)
            self.assertIs(run.save(2), False)
            self.assertIs(is_under_way(run), True)
        self.assert_as_before(run, before)
        run.save(2)
        before = picture(run)
        with run.tried():
            run.play()
            self.assertIs(is_under_way(run), False)
            self.assertIs(run.save(4), True)
        self.assert_as_before(run, before)

    def test_values_that_are_kept_in_it_are_not_kept_behind_it(self):
        problem = ((0, 0), ((((0,), 10), ((1,), 5)), (((0,), 30),), (((0,), 60),)), 1, 100)
        run, other = Run(problem, (2, 20, 20), 0), Run(problem, (2, 20, 20), 0)
        run.save(1)
        other.save(1)
        with run.tried():
            while run.rows()[0][1] < 3:
                run.step([event for event in run.enabled() if event != ("update", 1, 0, 1)][0])
            self.assertEqual(run.settled(), 0)
        self.assertTrue(run == other)
        with run.tried():
            run.restart((1, 20, 20))
            run.save(2)
            run.play()
        self.assertTrue(run == other)
        run.play()
        self.assertEqual(run.checkpoint(), (1, (10, 5)))

    def test_restarts(self):
        run = self.begun_run()
        before = picture(run)
        with run.tried():
            self.assertEqual(run.restart((4, 1, 1)), 1)
            self.assertEqual(run.first, 1)
            run.save(3)
            run.play()
            run.restart((1, 1, 1))
            self.assertEqual(run.first, 3)
        self.assert_as_before(run, before)
        self.assertEqual(run.first, 0)
        self.assertEqual(run.positions(), before[5])
        self.assertEqual(run.restart((2, 2, 2)), 1)

    def test_what_follows_is_as_if_there_had_been_no_trial(self):
        for problem, setup, first in RUNS:
            run, other = Run(problem, setup, first), Run(problem, setup, first)
            while other.enabled():
                with run.tried():
                    advance(run, PICKS[1], 6)
                    run.restart((1, 1, 1))
                    run.play()
                self.assertEqual(advance(run, PICKS[2], 3), advance(other, PICKS[2], 3))
                self.assertEqual(picture(run), picture(other))
                self.assertTrue(run == other)


class Errors(TrialCase):
    def test_error_of_another_kind(self):
        run = self.begun_run()
        before = picture(run)
        for error in (RuntimeError, KeyError, KeyboardInterrupt, GeneratorExit):
            with self.assertRaises(error):
                with run.tried():
                    run.play()
                    run.save(4)
                    run.restart(SETUP)
                    raise error("this ends the trial")
            self.assert_as_before(run, before)

    def test_errors_of_the_run(self):
        run = self.begun_run()
        before = picture(run)
        for error, call, told in (
            (NotPossible, run.step, ("compute", 0, 0)), (CheckpointUnderWay, run.save, 4),
            (BadSetup, run.restart, (0, 0, 0)), (NotPossible, run.foresee, ("compute", 0, 0)),
        ):
            with self.assertRaises(error):
                with run.tried():
                    advance(run, PICKS[0], 2)
                    call(told)
            self.assert_as_before(run, before)
        with self.assertRaises(TooLate):
            with run.tried():
                run.play()
                run.save(0)
        self.assert_as_before(run, before)

    def test_other_ways_to_leave_it(self):
        run = Run(EXAMPLE, SETUP, 0)
        before = picture(run)
        for _ in range(3):
            with run.tried():
                advance(run, PICKS[0], 2)
                continue
        self.assert_as_before(run, before)
        self.assertEqual(self.leave(run), 5)
        self.assert_as_before(run, before)

    def leave(self, run):
        with run.tried():
            advance(run, PICKS[0], 5)
            return len(run)


class SeveralTrials(TrialCase):
    def test_one_within_another(self):
        run = self.begun_run()
        before = picture(run)
        with run.tried():
            advance(run, PICKS[0], 3)
            within = picture(run)
            with run.tried():
                run.restart(SETUP)
                run.save(2)
                with run.tried():
                    run.play()
                self.assertEqual((run.first, len(run), is_under_way(run)), (1, 0, True))
            self.assert_as_before(run, within)
            with self.assertRaises(NotPossible):
                with run.tried():
                    run.play()
                    run.step(("compute", 0, 0))
            self.assert_as_before(run, within)
        self.assert_as_before(run, before)

    def test_as_it_was_when_the_trial_was_made(self):
        run = Run(EXAMPLE, SETUP, 0)
        before = picture(run)
        trial = run.tried()
        advance(run, PICKS[0], 4)
        with trial:
            self.assertEqual(len(run), 4)
            run.play()
        self.assert_as_before(run, before)

    def test_trial_that_is_used_several_times(self):
        run = self.begun_run()
        before = picture(run)
        trial = run.tried()
        for pick in PICKS:
            with trial as tried:
                self.assertIs(tried, run)
                advance(run, pick, 9)
                run.restart(SETUP)
                run.play()
            self.assert_as_before(run, before)
            advance(run, pick, 2)
        with trial:
            pass
        self.assert_as_before(run, before)

    def test_trials_of_two_runs(self):
        run, other = Run(EXAMPLE, SETUP, 0), self.begun_run()
        before, before_of_other = picture(run), picture(other)
        with run.tried(), other.tried():
            run.play()
            other.play()
        self.assert_as_before(run, before)
        self.assert_as_before(other, before_of_other)

    def test_two_trials_that_end_one_behind_the_other(self):
        run = Run(EXAMPLE, SETUP, 0)
        early = run.tried()
        advance(run, PICKS[0], 3)
        late, before = run.tried(), picture(run)
        with early:
            pass
        self.assertEqual(len(run), 0)
        with late:
            run.play()
        self.assert_as_before(run, before)


class Foreseen(TrialCase):
    def test_what_it_would_report(self):
        for problem, setup, first in RUNS:
            run = Run(problem, setup, first)
            while run.enabled():
                before = picture(run)
                foreseen = {event: run.foresee(event) for event in run.enabled()}
                self.assert_as_before(run, before)
                for event, reported in advance(run, PICKS[1], 1):
                    self.assertEqual(foreseen[event], reported)

    def test_reports_of_each_kind(self):
        run = Run(EXAMPLE, SETUP, 0)
        found = {}
        for event in events(EXAMPLE, SETUP, 0):
            found[event] = run.foresee(event)
            run.step(event)
        for event, reported in (
            (("request", 0, 0), ()), (("read", 0, 0), (5,)), (("reply", 0, 0), (5,)),
            (("value", 0, 1, 1), (7,)), (("compute", 0, 0), (2, 2)), (("compute", 1, 0), ()),
            (("update", 0, 1, 1), (-3, 4)), (("write", 1, 1), (3,)), (("ack", 1, 1), ()),
        ):
            self.assertEqual(found[event], reported)

    def test_events_that_are_not_possible(self):
        for run in (Run(EXAMPLE, SETUP, 0), Run(EXAMPLE, SETUP, 3), self.begun_run()):
            before = picture(run)
            for event in events(EXAMPLE, SETUP, 0) + events(SHARED, (4, 1, 1), 0):
                if event not in run.enabled():
                    with self.assertRaises(NotPossible):
                        run.foresee(event)
            for odd in NOT_TUPLES + ((), ("request",), ("compute", True, 0), ("send", 0, 0)):
                with self.assertRaises(NotPossible):
                    run.foresee(odd)
            self.assert_as_before(run, before)

    def test_event_that_ends_a_checkpoint(self):
        run = Run(EXAMPLE, SETUP, 0)
        run.save(1)
        last = [event for event in events(EXAMPLE, SETUP, 0) if event[0] == "update"][1]
        while run.enabled()[0] != last:
            run.step(run.enabled()[0])
        before = picture(run)
        self.assertEqual(run.foresee(last), (2, 2))
        self.assert_as_before(run, before)
        self.assertIs(is_under_way(run), True)
        run.step(last)
        self.assertEqual(run.checkpoint(), (1, (7, 2, 2)))


if __name__ == "__main__":
    unittest.main()
