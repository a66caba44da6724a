"""Points 17 and 18: new runs, which events are possible, what they do, and what they report."""

import unittest

from rowsahead.errors import BadProblem, BadSetup, NotPossible
from rowsahead.events import events
from rowsahead.runs import Run
from tests.helper import (
    EXAMPLE, NOT_INTEGERS, NOT_TUPLES, PICKS, SETUP, SHARED, TWICE, Case, advance, deep_tuple,
    moved, picture, used_in,
)

# Its row is used by two trainers in batch 0 and by the first one in batch 2: its corrections are
# 2 and -3 (limited), then 3 (limited).
LONELY = ((5,), ((((0,), 9), ((0,), -3)), (), (((0,), 20),)), 2, 3)
# Row 0 is used by trainer 0 in batch 0, and by both in batch 1.
PAIR = ((1, 2), ((((0,), 4),), (((0, 1), 9), ((1, 0), 2))), 1, 100)


class RunCase(Case):
    def assert_refused(self, run, *refused):
        before = picture(run)
        for event in refused:
            with self.assertRaises(NotPossible):
                run.step(event)
            self.assertNotIn(event, run.enabled())
        self.assertEqual(picture(run), before)

    def assert_step(self, run, event, reported, row=None):
        """Check what a possible event reports, and what there is of its row afterwards."""
        self.assertIn(event, run.enabled())
        self.assertEqual(run.step(event), reported)
        if row is not None:
            self.assertEqual(run.rows()[event[1]], row)
        self.assert_refused(run, event)


class NewRuns(RunCase):
    def test_new_run_of_the_example(self):
        run = Run(EXAMPLE, SETUP, 0)
        self.assertEqual(run.first, 0)
        self.assertEqual(run.rows(), (("home", 0, 5, 5), ("home", 0, 0, 0), ("home", 2, 2, 2)))
        self.assertEqual(run.positions(), (0, 0))
        self.assertEqual(run.settled(), 0)
        self.assertIs(run.finished(), False)
        self.assertEqual(run.checkpoint(), (0, (5, 0, 2)))
        self.assertEqual(run.enabled(), (("request", 0, 0), ("request", 1, 0), ("compute", 1, 0)))

    def test_first_batch_in_the_middle(self):
        run = Run(EXAMPLE, (4, 1, 2), 1)
        self.assertEqual(run.first, 1)
        self.assertEqual(run.rows(), (("home", 1, 7, 7), ("home", 1, 2, 2), ("home", 2, 2, 2)))
        self.assertEqual(run.positions(), (1, 1, 1, 1))
        self.assertEqual(run.settled(), 1)
        self.assertEqual(run.checkpoint(), (1, (7, 2, 2)))
        run = Run(EXAMPLE, SETUP, 2)
        self.assertEqual(run.rows(), (("home", 2, 4, 4), ("home", 3, 3, 3), ("home", 2, 2, 2)))

    def test_first_batch_behind_the_last_one(self):
        run = Run(EXAMPLE, SETUP, 3)
        self.assertEqual(run.first, 3)
        self.assertEqual(run.rows(), (("home", 3, 3, 3), ("home", 3, 3, 3), ("home", 3, 1, 1)))
        self.assertEqual(run.positions(), (3, 3))
        self.assertEqual(run.settled(), 3)
        self.assertIs(run.finished(), True)
        self.assertEqual(run.enabled(), ())
        self.assertEqual(run.play(), ())
        self.assert_refused(run, ("compute", 0, 3), ("compute", 0, 2), ("request", 0, 3),
                            ("request", 0, 0), ("ack", 0, 2))

    def test_first_batches_without_samples(self):
        run = Run(SHARED, SETUP, 0)
        self.assertEqual(run.settled(), 1)
        self.assertEqual(run.positions(), (0, 0))
        self.assertEqual([row[1] for row in run.rows()], [1, 1, 1, 1, 4])
        run = Run(((1, 2), ((), ()), 1, 1), (3, 1, 1), 0)
        self.assertEqual(run.settled(), 2)
        self.assertIs(run.finished(), False)
        self.assertEqual(run.play(), tuple([("compute", w, t) for t in (0, 1) for w in (0, 1, 2)]))
        self.assertIs(run.finished(), True)

    def test_bad_problem_and_bad_setup(self):
        for problem in (None, list(EXAMPLE), EXAMPLE[:3], ((), ((),), 1, 1), ((True,), ((),), 1, 1)):
            for setup in (SETUP, (0, 1, 1), None):
                with self.assertRaises(BadProblem):
                    Run(problem, setup, 0)
        for setup in NOT_TUPLES + ((0, 1, 1), (5, 1, 1), (1, 0, 1), (1, 1, 21), (2, 1), (2, 1, True)):
            with self.assertRaises(BadSetup):
                Run(EXAMPLE, setup, 0)

    def test_first_batches_somewhat_beyond_the_limits(self):
        for first in (-1, 4, 5):
            run = Run(EXAMPLE, SETUP, first)
            self.assertEqual(run.first, first)
            run.play()
            self.assertIs(run.finished(), True)


class OneRow(RunCase):
    def test_two_stays_of_one_batch(self):
        run = Run(LONELY, (2, 1, 3), 0)
        steps = (
            (("request", 0, 0), (), ("requested", 0, 5, 5)),
            (("read", 0, 0), (5,), ("replying", 0, 5, 5)),
            (("reply", 0, 0), (5,), ("cached", 0, 5, 5)),
            (("value", 0, 0, 1), (5,), ("cached", 0, 5, 5)),
            (("compute", 1, 0), (-3,), None),
            (("update", 0, 0, 1), (-3,), ("cached", 0, 5, 5)),
            (("value", 0, 0, 0), (5,), ("cached", 0, 5, 5)),
            (("compute", 0, 0), (2,), None),
            (("update", 0, 0, 0), (2, 4), ("writing", 2, 4, 5)),
            (("write", 0, 0), (4,), ("acknowledging", 2, 4, 4)),
            (("ack", 0, 0), (), ("home", 2, 4, 4)),
            (("request", 0, 2), (), ("requested", 2, 4, 4)),
            (("read", 0, 2), (4,), ("replying", 2, 4, 4)),
            (("reply", 0, 2), (4,), ("cached", 2, 4, 4)),
            (("value", 0, 2, 0), (4,), ("cached", 2, 4, 4)),
            (("compute", 0, 1), (), None),
            (("compute", 0, 2), (3,), None),
            (("update", 0, 2, 0), (3, 7), ("writing", 3, 7, 4)),
            (("write", 0, 2), (7,), ("acknowledging", 3, 7, 7)),
            (("ack", 0, 2), (), ("home", 3, 7, 7)),
        )
        for event, reported, row in steps:
            self.assert_step(run, event, reported, row)
            self.assertIs(run.finished(), False)
        self.assertEqual(run.positions(), (3, 1))
        self.assertEqual(run.play(), (("compute", 1, 1), ("compute", 1, 2)))
        self.assertIs(run.finished(), True)

    def test_a_stay_of_several_batches(self):
        run = moved(LONELY, (2, 2, 1), 0, ("request", 0, 0), ("read", 0, 0), ("reply", 0, 0),
                    ("value", 0, 0, 1), ("compute", 1, 0), ("value", 0, 0, 0), ("compute", 0, 0))
        steps = (
            (("update", 0, 0, 0), (2,), ("cached", 0, 5, 5)),
            (("update", 0, 0, 1), (-3, 4), ("cached", 2, 4, 5)),
            (("value", 0, 2, 0), (4,), ("cached", 2, 4, 5)),
            (("compute", 0, 1), (), None),
            (("compute", 0, 2), (3,), ("cached", 2, 4, 5)),
            (("update", 0, 2, 0), (3, 7), ("writing", 3, 7, 5)),
            (("write", 0, 2), (7,), ("acknowledging", 3, 7, 7)),
            (("ack", 0, 2), (), ("home", 3, 7, 7)),
        )
        for event, reported, row in steps:
            self.assert_step(run, event, reported, row)

    def test_settled_batch_moves_on(self):
        run = Run(LONELY, (2, 2, 1), 0)
        settled = {}
        for event in events(LONELY, (2, 2, 1), 0):
            run.step(event)
            settled.setdefault(run.settled(), event)
        self.assertEqual(settled, {
            0: ("request", 0, 0), 2: ("update", 0, 0, 1), 3: ("update", 0, 2, 0),
        })

    def test_finished_only_if_all_is_done(self):
        for last in (("ack", 0, 2), ("compute", 1, 2)):
            left = [event for event in events(LONELY, (2, 1, 1), 0) if event != last]
            run = moved(LONELY, (2, 1, 1), 0, *left)
            self.assertIs(run.finished(), False)
            self.assertEqual(run.enabled(), (last,))
            run.step(last)
            self.assertIs(run.finished(), True)
            self.assertEqual(run.enabled(), ())
            self.assert_refused(run, *events(LONELY, (2, 1, 1), 0))


class Requests(RunCase):
    def test_window_behind_the_settled_batch(self):
        problem = used_in(5, (0, 1), (1,), (2,), (3,), (4,))
        for window in (1, 2, 3, 4, 5, 20):
            run = Run(problem, (1, window, 1), 0)
            requests = [("request", row, row) for row in range(5)]
            self.assertEqual(run.enabled(), tuple(requests[:window]))
            self.assert_refused(run, *requests[window:])
        run = Run(problem, (1, 2, 1), 0)
        while run.settled() == 0:
            self.assert_refused(run, ("request", 2, 2))
            advance(run, PICKS[0], 1)
        self.assertEqual(run.settled(), 1)
        self.assert_step(run, ("request", 2, 2), (), ("requested", 2, 0, 0))
        self.assert_refused(run, ("request", 3, 3))

    def test_row_that_is_not_home(self):
        run = Run(EXAMPLE, SETUP, 0)
        for event in (("request", 0, 0), ("read", 0, 0), ("reply", 0, 0), ("value", 0, 0, 0)):
            run.step(event)
            self.assert_refused(run, ("request", 0, 0))

    def test_another_batch_than_the_next_one(self):
        run = Run(TWICE, (2, 1, 1), 0)
        self.assert_refused(run, ("request", 0, 3), ("request", 1, 3))
        log = [event for event in events(TWICE, (2, 1, 1), 0) if event[2] < 2]
        run = moved(TWICE, (2, 1, 1), 0, *log)
        self.assertEqual(run.rows(), (("home", 3, 3, 3), ("home", 3, 3, 3)))
        self.assert_refused(run, ("request", 0, 0), ("request", 1, 0), ("request", 0, 1),
                            ("request", 0, 2))
        self.assert_step(run, ("request", 0, 3), (), ("requested", 3, 3, 3))

    def test_request_waits_for_the_acknowledgement(self):
        # Row 0 is used in batch 0 and again in batch 3.
        problem = used_in(4, (0, 3), (1,), (2,))
        held = (("write", 0, 0), ("ack", 0, 0))
        run = moved(problem, (1, 2, 1), 0, *[
            event for event in events(problem, (1, 2, 1), 0)
            if event[2] < 2 and event not in held])
        self.assertEqual(run.settled(), 2)
        self.assertEqual(run.rows()[0][:2], ("writing", 3))
        self.assert_refused(run, ("request", 0, 3), ("ack", 0, 0))
        self.assert_step(run, ("write", 0, 0), (1,), ("acknowledging", 3, 1, 1))
        self.assert_refused(run, ("request", 0, 3))
        self.assert_step(run, ("ack", 0, 0), (), ("home", 3, 1, 1))
        self.assert_step(run, ("request", 0, 3), (), ("requested", 3, 1, 1))


class ReadsAndReplies(RunCase):
    def test_stages_in_which_they_are_not_possible(self):
        run = Run(EXAMPLE, SETUP, 0)
        self.assert_refused(run, ("read", 0, 0), ("reply", 0, 0))
        run.step(("request", 0, 0))
        self.assert_refused(run, ("reply", 0, 0), ("read", 1, 0), ("value", 0, 0, 0))
        self.assert_step(run, ("read", 0, 0), (5,), ("replying", 0, 5, 5))
        self.assert_refused(run, ("reply", 1, 0), ("value", 0, 0, 0))
        self.assert_step(run, ("reply", 0, 0), (5,), ("cached", 0, 5, 5))

    def test_reply_sends_the_value_to_all_users(self):
        run = moved(SHARED, (3, 1, 1), 1, ("request", 1, 1), ("read", 1, 1))
        self.assertEqual(run.step(("reply", 1, 1)), (-4,))
        values = [event for event in run.enabled() if event[0] == "value"]
        self.assertEqual(values, [("value", 1, 1, 0), ("value", 1, 1, 1), ("value", 1, 1, 2)])
        run = moved(SHARED, (2, 1, 1), 1, ("request", 2, 1), ("read", 2, 1), ("reply", 2, 1))
        values = [event for event in run.enabled() if event[0] == "value"]
        self.assertEqual(values, [("value", 2, 1, 1)])


class Values(RunCase):
    def test_value_of_a_row_that_is_not_cached(self):
        run = Run(LONELY, (2, 1, 3), 0)
        for event in events(LONELY, (2, 1, 3), 0)[:3]:
            self.assert_refused(run, ("value", 0, 0, 0), ("value", 0, 0, 1))
            run.step(event)
        self.assertIn(("value", 0, 0, 0), run.enabled())
        self.assertIn(("value", 0, 0, 1), run.enabled())

    def test_value_of_another_batch(self):
        run = moved(LONELY, (2, 2, 3), 0, ("request", 0, 0), ("read", 0, 0), ("reply", 0, 0))
        self.assert_refused(run, ("value", 0, 2, 0))
        run = moved(LONELY, (2, 2, 3), 0, *[
            event for event in events(LONELY, (2, 2, 3), 0) if event[2] == 0])
        self.assert_refused(run, ("value", 0, 0, 0), ("value", 0, 0, 1), ("value", 0, 2, 1))
        self.assert_step(run, ("value", 0, 2, 0), (4,), ("cached", 2, 4, 5))

    def test_value_is_sent_to_the_users_of_the_next_batch(self):
        run = moved(PAIR, (2, 1, 2), 0, ("request", 0, 0), ("read", 0, 0), ("reply", 0, 0),
                    ("value", 0, 0, 0), ("compute", 0, 0))
        self.assertEqual([event for event in run.enabled() if event[0] == "value"], [])
        self.assert_step(run, ("update", 0, 0, 0), (3, 4), ("cached", 1, 4, 1))
        self.assert_step(run, ("value", 0, 1, 1), (4,), ("cached", 1, 4, 1))
        self.assert_step(run, ("value", 0, 1, 0), (4,), ("cached", 1, 4, 1))


class Computes(RunCase):
    def test_another_batch_than_the_next_one(self):
        run = Run(EXAMPLE, (3, 1, 3), 0)
        self.assert_refused(run, ("compute", 2, 1), ("compute", 2, 2))
        self.assert_step(run, ("compute", 2, 0), ())
        self.assertEqual(run.positions(), (0, 0, 1))
        self.assert_refused(run, ("compute", 2, 0), ("compute", 2, 2), ("compute", 2, 3))
        self.assert_step(run, ("compute", 2, 1), ())
        self.assert_step(run, ("compute", 2, 2), ())
        self.assertEqual(run.positions(), (0, 0, 3))

    def test_lead_behind_the_settled_batch(self):
        problem = used_in(5, (0, 1, 2, 3, 4))
        for lead in (1, 2, 3, 5, 20):
            run = Run(problem, (2, 1, lead), 0)
            for batch in range(min(lead, 5)):
                self.assert_step(run, ("compute", 1, batch), ())
            self.assert_refused(run, ("compute", 1, lead))
        run = moved(problem, (2, 1, 2), 0, ("compute", 1, 0), ("compute", 1, 1))
        while run.settled() == 0:
            self.assert_refused(run, ("compute", 1, 2))
            run.step(run.enabled()[0])
        self.assert_step(run, ("compute", 1, 2), ())
        self.assert_refused(run, ("compute", 1, 3))

    def test_each_value_must_have_arrived(self):
        loads = [("request", 0, 0), ("read", 0, 0), ("reply", 0, 0),
                 ("request", 1, 0), ("read", 1, 0), ("reply", 1, 0)]
        values = [("value", 0, 0, 0), ("value", 1, 0, 0)]
        for missing in values:
            run = moved(EXAMPLE, SETUP, 0, *loads)
            self.assert_refused(run, ("compute", 0, 0))
            run.step([event for event in values if event != missing][0])
            self.assert_refused(run, ("compute", 0, 0))
            run.step(missing)
            self.assert_step(run, ("compute", 0, 0), (2, 2))

    def test_row_that_is_not_cached(self):
        run = moved(EXAMPLE, SETUP, 0, ("request", 0, 0), ("read", 0, 0), ("reply", 0, 0),
                    ("value", 0, 0, 0))
        for event in (("request", 1, 0), ("read", 1, 0), ("reply", 1, 0), ("value", 1, 0, 0)):
            self.assert_refused(run, ("compute", 0, 0))
            run.step(event)
        self.assertIn(("compute", 0, 0), run.enabled())

    def test_row_that_has_another_next_batch(self):
        run = moved(PAIR, (2, 2, 2), 0, ("compute", 1, 0), *[
            (kind, row, row) for row in (0, 1) for kind in ("request", "read", "reply")])
        run.step(("value", 1, 1, 1))
        run.step(("value", 0, 0, 0))
        self.assertEqual([row[:2] for row in run.rows()], [("cached", 0), ("cached", 1)])
        self.assert_refused(run, ("compute", 1, 1))
        run.step(("compute", 0, 0))
        run.step(("update", 0, 0, 0))
        self.assert_refused(run, ("compute", 1, 1))
        run.step(("value", 0, 1, 1))
        # The sum of the values is 4 + 2, and the target 2.
        self.assert_step(run, ("compute", 1, 1), (-4, -4))

    def test_other_trainers_values_do_not_matter(self):
        run = moved(LONELY, (2, 1, 1), 0, ("request", 0, 0), ("read", 0, 0), ("reply", 0, 0),
                    ("value", 0, 0, 1))
        self.assert_refused(run, ("compute", 0, 0))
        self.assert_step(run, ("compute", 1, 0), (-3,))
        self.assertEqual(run.positions(), (0, 1))
        self.assert_refused(run, ("compute", 0, 0))

    def test_updates_by_ascending_rows(self):
        # One trainer has all samples of the batch, in which row 2 comes first.
        problem = ((1, 2, 3, 0), ((((2, 0), 9), ((1,), 1), ((2, 1), 4)),), 1, 100)
        run = Run(problem, (1, 1, 1), 0)
        while ("compute", 0, 0) not in run.enabled():
            run.step(run.enabled()[0])
        self.assert_step(run, ("compute", 0, 0), (5, -2, 4))
        updates = [("update", row, 0, 0) for row in range(3)]
        self.assertEqual(run.enabled(), tuple(updates))
        self.assert_step(run, updates[2], (4, 7), ("writing", 1, 7, 3))
        self.assert_step(run, updates[0], (5, 6), ("writing", 1, 6, 1))
        self.assert_step(run, updates[1], (-2, 0), ("writing", 1, 0, 2))

    def test_more_than_one_sample_of_a_trainer(self):
        # Of five samples the trainers compute those with the indices 0, 2, 4 and 1, 3.
        problem = ((0, 0), (tuple([((k % 2,), 10 ** k) for k in range(3)] + [((0, 1), 7)] * 2),),
                   1, 10 ** 3)
        run = Run(problem, (2, 1, 1), 0)
        reports = dict(advance(run, PICKS[2]))
        self.assertEqual(reports[("compute", 0, 0)], (108, 7))
        self.assertEqual(reports[("compute", 1, 0)], (7, 17))


class Updates(RunCase):
    def test_update_that_is_not_on_its_way(self):
        run = Run(LONELY, (2, 2, 3), 0)
        for event in events(LONELY, (2, 2, 3), 0)[:5]:
            self.assert_refused(run, ("update", 0, 0, 0), ("update", 0, 0, 1))
            run.step(event)
        run.step(("compute", 0, 0))
        self.assert_refused(run, ("update", 0, 0, 1), ("update", 0, 2, 0))
        self.assert_step(run, ("update", 0, 0, 0), (2,), ("cached", 0, 5, 5))
        run.step(("compute", 1, 0))
        self.assert_step(run, ("update", 0, 0, 1), (-3, 4), ("cached", 2, 4, 5))
        self.assert_refused(run, ("update", 0, 2, 0), ("update", 0, 0, 0))

    def test_update_of_nothing(self):
        run = Run(((3,), ((((0,), 3),),), 1, 1), (1, 1, 1), 0)
        reports = dict(advance(run, PICKS[0]))
        self.assertEqual(reports[("compute", 0, 0)], (0,))
        self.assertEqual(reports[("update", 0, 0, 0)], (0, 3))

    def test_last_use_of_all_is_written(self):
        # The number of batches is no batch that would use the row within the window.
        run = Run(EXAMPLE, (2, 20, 1), 2)
        reports = dict(advance(run, PICKS[1]))
        self.assertEqual(reports[("write", 0, 2)], (3,))
        self.assertEqual(reports[("write", 2, 2)], (1,))

    def test_window_within_which_a_row_stays(self):
        problem = used_in(7, (0, 3, 5, 6))
        for window, kinds in ((1, ["writing", "writing", "cached", "writing"]),
                              (2, ["writing", "cached", "cached", "writing"]),
                              (3, ["cached", "cached", "cached", "writing"])):
            run = Run(problem, (1, window, 1), 0)
            found = []
            while not run.finished():
                event = run.enabled()[0]
                run.step(event)
                if event[0] == "update":
                    found.append(run.rows()[0][0])
            self.assertEqual(found, kinds)


class WritesAndAcknowledgements(RunCase):
    def test_stages_in_which_they_are_not_possible(self):
        run = Run(LONELY, (2, 1, 3), 0)
        whole = [event for event in events(LONELY, (2, 1, 3), 0) if event[2] == 0]
        for event in whole[:-2]:
            self.assert_refused(run, ("write", 0, 0), ("ack", 0, 0), ("write", 0, 2))
            run.step(event)
        self.assertEqual(run.enabled()[0], ("write", 0, 0))
        self.assert_refused(run, ("ack", 0, 0), ("write", 0, 2), ("request", 0, 2))
        self.assert_step(run, ("write", 0, 0), (4,), ("acknowledging", 2, 4, 4))
        self.assert_refused(run, ("request", 0, 2), ("write", 0, 2), ("ack", 0, 2))
        self.assert_step(run, ("ack", 0, 0), (), ("home", 2, 4, 4))

    def test_batch_after_which_a_row_is_written(self):
        run = moved(LONELY, (2, 2, 3), 0, *[
            event for event in events(LONELY, (2, 2, 3), 0) if event[0] not in ("write", "ack")])
        self.assert_refused(run, ("write", 0, 0), ("write", 0, 1), ("write", 0, 3))
        self.assert_step(run, ("write", 0, 2), (7,), ("acknowledging", 3, 7, 7))
        self.assert_refused(run, ("ack", 0, 0), ("ack", 0, 3))
        self.assert_step(run, ("ack", 0, 2), (), ("home", 3, 7, 7))


class OtherTuples(RunCase):
    def test_tuples_that_are_no_events_of_the_run(self):
        run = moved(EXAMPLE, SETUP, 0, ("compute", 1, 0), ("request", 0, 0))
        self.assert_refused(
            run, (), ("request",), ("request", 1), ("request", 1, 0, 0), ("request", 3, 0),
            ("request", -2, 0), ("request", 1, -3), ("compute", 2, 0), ("compute", -1, 1),
            ("compute", 1, 3), ("value", 0, 0, 1), ("send", 1, 0), (1, 0, "request"),
            ("request", 1, 10 ** 30), ("Request", 1, 0), (("request", 1, 0),), deep_tuple())
        run.step(("request", 1, 0))

    def test_odd_values(self):
        run = Run(EXAMPLE, SETUP, 0)
        before = picture(run)
        odd_tuples = [("request", odd, 0) for odd in NOT_INTEGERS]
        odd_tuples += [("request", 1, odd) for odd in NOT_INTEGERS]
        odd_tuples += [(odd, 1, 0) for odd in NOT_INTEGERS]
        for event in odd_tuples + [("compute", True, 0), ("request", 1, False)] + list(NOT_TUPLES):
            with self.assertRaises(NotPossible):
                run.step(event)
        self.assertEqual(picture(run), before)


class Unchanged(RunCase):
    def test_methods_that_tell_something_change_nothing(self):
        run = Run(SHARED, (2, 2, 2), 0)
        while run.enabled():
            before = picture(run)
            self.assertEqual(picture(run), before)
            advance(run, PICKS[3], 5)
        self.assertEqual(picture(run), picture(run))

    def test_runs_have_nothing_in_common(self):
        run, other = Run(EXAMPLE, SETUP, 0), Run(EXAMPLE, SETUP, 0)
        before = picture(other)
        run.play()
        self.assertEqual(picture(other), before)


if __name__ == "__main__":
    unittest.main()
