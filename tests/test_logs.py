"""Point 12: orderly logs, and the example of the document; point 2: what is passed is unchanged."""

import doctest
import unittest

from rowsahead.events import causes, events
from rowsahead.logs import audit, is_orderly
from tests.helper import EXAMPLE, NOT_INTEGERS, NOT_TUPLES, RUNS, SETUP, Case

# The example under rowsahead/logs.py, as it stands in the document.
DOCUMENT = """\
>>> from rowsahead.events import causes, plan
>>> from rowsahead.logs import audit
>>> from rowsahead.stays import stays
>>> from rowsahead.training import train
>>> problem = ((5, 0, 2), ((((0, 1), 9),), (((1,), 5), ((0,), 0)), (((0, 2), 4),)), 2, 3)
>>> train(problem, 1), train(problem, 3)
((7, 2, 2), (3, 3, 1))
>>> setup = (2, 1, 1)
>>> stays(problem, setup, 0), plan(problem, setup, 0)
(((0, 0, 2), (1, 0, 1), (2, 2, 2)), (3, 6, 33, 3))
>>> causes(problem, setup, 0, ("value", 1, 1, 0))
(('update', 1, 0, 0),)
>>> audit(problem, setup, 0, [("request", 0, 0), ("read", 0, 0), ("value", 0, 0, 0)])
2
"""


class LogCase(Case):
    def assert_audit(self, run, log, expected):
        problem, setup, first = run
        found = audit(problem, setup, first, log)
        self.assertIs(type(found), int)
        self.assertEqual(found, expected)
        self.assertIs(is_orderly(problem, setup, first, log), expected == len(log))


class Example(unittest.TestCase):
    def test_example_of_the_document(self):
        test = doctest.DocTestParser().get_doctest(DOCUMENT, {}, "the document", None, 0)
        failed, tried = doctest.DocTestRunner(verbose=False).run(test)
        self.assertEqual((failed, tried), (0, 10))


class OrderlyLogs(LogCase):
    def test_canonical_order_and_each_beginning_of_it(self):
        for run in RUNS:
            listed = list(events(*run))
            for length in range(len(listed) + 1):
                self.assert_audit(run, listed[:length], length)

    def test_empty_log(self):
        self.assert_audit((EXAMPLE, SETUP, 0), [], 0)
        self.assert_audit((EXAMPLE, SETUP, 3), [], 0)
        self.assertIs(is_orderly(EXAMPLE, SETUP, 0, []), True)

    def test_other_orders(self):
        run = (EXAMPLE, SETUP, 0)
        self.assert_audit(run, [("compute", 1, 0), ("request", 1, 0), ("read", 1, 0)], 3)
        self.assert_audit(run, [
            ("request", 1, 0), ("read", 1, 0), ("request", 0, 0), ("reply", 1, 0),
            ("compute", 1, 0), ("value", 1, 0, 0), ("read", 0, 0), ("reply", 0, 0),
            ("value", 0, 0, 0),
            ("compute", 0, 0), ("update", 1, 0, 0), ("value", 1, 1, 0), ("update", 0, 0, 0),
        ], 13)

    def test_last_possible_event_first(self):
        for run in RUNS:
            left, log = list(events(*run)), []
            while left:
                possible = [event for event in left if set(causes(*run, event)) <= set(log)]
                log.append(possible[-1])
                left.remove(possible[-1])
            self.assertNotEqual(log, list(events(*run)))
            self.assert_audit(run, log, len(log))


class LogsThatAreNotOrderly(LogCase):
    def test_event_left_out(self):
        for run in RUNS:
            listed = list(events(*run))
            for at, event in enumerate(listed):
                log = listed[:at] + listed[at + 1:]
                hurt = [place for place, other in enumerate(log) if event in causes(*run, other)]
                self.assert_audit(run, log, min(hurt, default=len(log)))

    def test_event_left_out_of_a_written_log(self):
        run = (EXAMPLE, SETUP, 0)
        log = [("request", 0, 0), ("read", 0, 0), ("value", 0, 0, 0)]
        self.assert_audit(run, log, 2)
        self.assert_audit(run, log[:2] + [("compute", 0, 0)], 2)
        self.assert_audit(run, [("request", 1, 0), ("read", 0, 0), ("reply", 1, 0)], 1)
        self.assert_audit(run, [("ack", 0, 2)], 0)

    def test_event_doubled(self):
        for run in RUNS:
            listed = list(events(*run))
            for at, event in enumerate(listed):
                for place in (at + 1, (at + len(listed)) // 2 + 1, len(listed)):
                    self.assert_audit(run, listed[:place] + [event] + listed[place:], place)

    def test_event_ahead_of_one_of_its_causes(self):
        for run in RUNS:
            listed = list(events(*run))
            for event in listed:
                for cause in causes(*run, event):
                    at = listed.index(cause)
                    rest = [other for other in listed[at:] if other != event]
                    self.assert_audit(run, listed[:at] + [event] + rest, at)

    def test_one_of_several_causes_is_missing(self):
        run = (EXAMPLE, SETUP, 0)
        log = list(events(*run))
        log.remove(("value", 1, 0, 0))
        self.assert_audit(run, log, log.index(("compute", 0, 0)))

    def test_event_of_another_run(self):
        early = list(events(EXAMPLE, SETUP, 0))
        late = list(events(EXAMPLE, SETUP, 1))
        self.assert_audit((EXAMPLE, SETUP, 1), early, 0)
        self.assert_audit((EXAMPLE, SETUP, 0), late, 0)
        self.assert_audit((EXAMPLE, SETUP, 3), early, 0)
        self.assert_audit((EXAMPLE, (1, 1, 1), 0), early, early.index(("compute", 1, 0)))
        self.assert_audit((EXAMPLE, (2, 1, 1), 0), [("compute", 1, 0), ("compute", 2, 0)], 1)

    def test_causes_are_those_of_the_setup(self):
        whole = list(events(EXAMPLE, (2, 1, 1), 0))
        ahead = [("compute", 1, 0), ("value", 0, 1, 1), ("compute", 1, 1)]
        cached = [event for event in whole[:11] if event != ("compute", 1, 0)]
        self.assert_audit((EXAMPLE, (2, 1, 1), 0), cached + ahead, len(cached) + 2)
        self.assert_audit((EXAMPLE, (2, 1, 2), 0), cached + ahead, len(cached) + 3)

    def test_what_comes_behind_the_fault_does_not_matter(self):
        listed = list(events(EXAMPLE, SETUP, 0))
        self.assert_audit((EXAMPLE, SETUP, 0), listed[:4] + [("none",)] + listed[4:], 4)
        self.assert_audit((EXAMPLE, SETUP, 0), [listed[0], listed[0]] + [()] * 3, 1)

    def test_true_and_false_are_no_numbers(self):
        run = (EXAMPLE, SETUP, 0)
        self.assert_audit(run, [("request", False, 0)], 0)
        self.assert_audit(run, [("request", 0, 0), ("request", True, 0)], 1)
        self.assert_audit(run, [("request", 0, 0), ("read", 0, False)], 1)

    def test_tuples_that_are_no_events(self):
        run = (EXAMPLE, SETUP, 0)
        wrong = [(), ("request",), ("request", 0), ("request", 0, 0, 0), ("request", 2, 0),
                 ("request", 0, 1), ("request", 0, 10 ** 30), ("request", -3, 0), ("send", 0, 0),
                 (0, 0, "request"), ("value", 0, 0, 1), (("request", 0, 0),), ("request", [0], 0)]
        wrong.extend([("request", odd, 0) for odd in NOT_INTEGERS])
        wrong.extend([(odd, 0, 0) for odd in NOT_INTEGERS])
        for event in wrong:
            self.assert_audit(run, [event], 0)
            self.assert_audit(run, [("request", 0, 0), event, ("read", 0, 0)], 1)

    def test_what_is_no_tuple_is_no_event(self):
        for odd in NOT_TUPLES + (["request", 0, 0], "request"):
            self.assert_audit((EXAMPLE, SETUP, 0), [odd], 0)


class Unchanged(Case):
    def test_what_was_passed_is_unchanged(self):
        problem = [[5, 0], [[[[0, 1], 9]], [], [[[1], 5], [[0], 0]]], 2, 3]
        whole = list(events(problem, [2, 1, 1], 0))
        for log in ([], whole, whole[::-1], whole + whole[:1], whole[:5] + [("none", 1)]):
            for call in (audit, is_orderly):
                self.assert_unchanged(call, problem, [2, 1, 1], 0, log)


if __name__ == "__main__":
    unittest.main()
