"""Points 18 and 19: what holds in whatever order the events of a run take place."""

import unittest

from rowsahead.errors import NotPossible
from rowsahead.events import causes, events
from rowsahead.logs import is_orderly
from rowsahead.runs import Run
from rowsahead.training import train
from tests.helper import EXAMPLE, PICKS, RUNS, SETUP, SHARED, Case, advance, picture


class PossibleEvents(Case):
    def test_possible_events_are_those_that_go_on_with_an_orderly_log(self):
        for problem, setup, first in RUNS:
            listed = events(problem, setup, first)
            before = {event: causes(problem, setup, first, event) for event in listed}
            for pick in PICKS:
                run, log = Run(problem, setup, first), {}
                while True:
                    expected = tuple([event for event in listed if event not in log
                                      and all(cause in log for cause in before[event])])
                    self.assertEqual(run.enabled(), expected)
                    self.assertIs(run.finished(), expected == ())
                    if not expected:
                        break
                    event = pick(expected, len(log))
                    run.step(event)
                    log[event] = True
                self.assertEqual(tuple(run), tuple(log))
                self.assertTrue(is_orderly(problem, setup, first, list(run)))

    def test_every_other_event_is_refused(self):
        for problem, setup, first in RUNS[:5]:
            run = Run(problem, setup, first)
            while not run.finished():
                before = picture(run)
                for event in events(problem, setup, first) + events(problem, (4, 1, 1), 0):
                    if event not in run.enabled():
                        with self.assertRaises(NotPossible):
                            run.step(event)
                self.assertEqual(picture(run), before)
                advance(run, PICKS[2], 3)

    def test_play_takes_the_first_possible_event(self):
        for problem, setup, first in RUNS:
            # In canonical order each event has its causes before it.
            run = Run(problem, setup, first)
            self.assertEqual(run.play(), events(problem, setup, first))
            self.assertIs(run.finished(), True)
            self.assertEqual(run.play(), ())
            run = Run(problem, setup, first)
            advance(run, PICKS[1], 10)
            begun = list(run)
            left = tuple([event for event in events(problem, setup, first) if event not in begun])
            self.assertEqual(run.play(), left)
            self.assertEqual(tuple(run), tuple(begun) + left)

    def test_kinds_of_what_is_returned(self):
        for run in (Run(SHARED, (3, 2, 2), 0), Run(EXAMPLE, SETUP, 3)):
            while True:
                for found in (run.enabled(), run.rows(), run.positions(), run.checkpoint(),
                              *run.enabled(), *run.rows()):
                    self.assertIs(type(found), tuple)
                self.assertIs(type(run.settled()), int)
                self.assertIs(type(run.finished()), bool)
                if not run.enabled():
                    break
                reported = run.step(run.enabled()[-1])
                self.assertIs(type(reported), tuple)
                self.assertTrue(all(type(number) is int for number in reported))
            self.assertIs(type(run.play()), tuple)


class TrainedValues(Case):
    def test_values_are_those_of_sequential_training(self):
        for problem, setup, first in RUNS:
            tables = [train(problem, count) for count in range(len(problem[1]) + 1)]
            for pick in PICKS:
                run = Run(problem, setup, first)
                for (kind, number, batch, *_), reported in advance(run, pick):
                    if kind in ("read", "reply", "value"):
                        self.assertEqual(reported, (tables[batch][number],))
                    if kind == "write":
                        self.assertEqual(reported, (tables[batch + 1][number],))
                    if kind == "update" and len(reported) == 2:
                        self.assertEqual(reported[1], tables[batch + 1][number])
                self.assertIs(run.finished(), True)
                self.assertEqual(tuple([row[3] for row in run.rows()]), tables[-1])

    def test_each_batch_is_applied_once_to_each_of_its_rows(self):
        for problem, setup, first in RUNS:
            used = [(row, batch) for batch in range(first, len(problem[1]))
                    for row in {row for rows, target in problem[1][batch] for row in rows}]
            for pick in PICKS:
                reports = advance(Run(problem, setup, first), pick)
                applied = [event[1:3] for event, reported in reports
                           if event[0] == "update" and len(reported) == 2]
                self.assertEqual(sorted(applied), sorted(used))

    def test_rows_between_the_events(self):
        for problem, setup, first in RUNS:
            end = len(problem[1])
            tables = [train(problem, count) for count in range(end + 1)]
            run = Run(problem, setup, first)
            while run.enabled():
                advance(run, PICKS[2], 1)
                for row, (stage, batch, current, stored) in enumerate(run.rows()):
                    self.assertEqual(current, tables[batch][row])
                    if stage not in ("cached", "writing"):
                        self.assertEqual(stored, current)
                self.assertEqual(run.settled(), min([row[1] for row in run.rows()]))

    def test_play_of_a_whole_run(self):
        run = Run(SHARED, (4, 20, 20), 0)
        run.play()
        self.assertEqual(tuple([row[3] for row in run.rows()]), train(SHARED, 4))
        self.assertEqual({row[0] for row in run.rows()}, {"home"})


if __name__ == "__main__":
    unittest.main()
