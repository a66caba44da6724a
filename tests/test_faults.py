"""Points 12 and 16: papers on the faults of logs; point 2: what is passed is unchanged."""

import unittest

from rowsahead.events import causes, events
from rowsahead.logs import audit, is_orderly
from rowsahead.papers import explain_fault, judge_fault
from tests.helper import (
    EXAMPLE, NOT_INTEGERS, NOT_TUPLES, RUNS, SETUP, Case, Refusing, deep_tuple,
)

RUN = (EXAMPLE, SETUP, 0)
FAR = 10 ** 40
# A log with each kind of fault: strange at 2, again at 4 and 7, early at 5 and 7.
LOG = (
    ("request", 0, 0), ("read", 0, 0), ("send", 0, 0), ("request", 1, 0), ("request", 0, 0),
    ("value", 0, 0, 0), ("reply", 0, 0), ("value", 0, 0, 0),
)
EARLY = ("early", 5, ("reply", 0, 0))
STRANGE_TUPLES = (
    (), ("send", 0, 0), ("request",), ("request", 0), ("request", 0, 0, 0), ("request", 2, 0),
    ("request", 0, 1), ("request", -3, 0), ("compute", True, 0), ("compute", 2, 0), (0, 0, 0),
    ("value", 0, 0, 1), ("value", 0, 0, False), ("request", [0], 0), (("request", 0, 0),),
    ("request", FAR, 0), (None, None, None),
)


class FaultCase(Case):
    def assert_judged(self, expected, log, paper, run=RUN):
        self.assertIs(judge_fault(*run, log, paper), expected)

    def assert_taken(self, log, *papers):
        for paper in papers:
            self.assert_judged(True, log, paper)

    def assert_refused(self, log, *papers):
        for paper in papers:
            self.assert_judged(False, log, paper)


class Strange(FaultCase):
    def test_tuples_that_are_no_events(self):
        for strange in STRANGE_TUPLES:
            log = (("request", 0, 0), strange, ("read", 0, 0), strange)
            self.assert_taken(log, ("strange", 1), ("strange", 3))
            self.assert_refused(log, ("strange", 0), ("strange", 2))

    def test_events_of_the_run_are_not_strange(self):
        for run in RUNS:
            log = events(*run)
            for index in range(len(log)):
                self.assert_judged(False, log[::-1], ("strange", index), run)

    def test_each_index(self):
        for index in range(len(LOG)):
            self.assert_judged(index == 2, LOG, ("strange", index))

    def test_events_of_another_run(self):
        log = (("compute", 1, 0), ("compute", 0, 1))
        for run, expected in ((RUN, (False, False)), ((EXAMPLE, (1, 1, 1), 0), (True, False)),
                              ((EXAMPLE, SETUP, 1), (True, False)),
                              ((EXAMPLE, SETUP, 3), (True, True))):
            self.assert_judged(expected[0], log, ("strange", 0), run)
            self.assert_judged(expected[1], log, ("strange", 1), run)


class Again(FaultCase):
    def test_each_pair_of_indexes(self):
        for index in range(-9, 10):
            for earlier in range(-9, 10):
                expected = (index, earlier) in ((4, 0), (7, 5))
                self.assert_judged(expected, LOG, ("again", index, earlier))

    def test_event_that_stands_there_three_times(self):
        log = (("compute", 1, 0), ("request", 0, 0), ("compute", 1, 0), ("compute", 1, 0))
        self.assert_taken(log, ("again", 2, 0), ("again", 3, 0), ("again", 3, 2))
        self.assert_refused(log, ("again", 0, 2), ("again", 2, 3), ("again", 2, 1),
                            ("again", 2, 2), ("again", 0, 0), ("again", 3, -4), ("again", 3, -2),
                            ("again", -1, 0), ("again", -1, -2))

    def test_tuples_that_are_no_events(self):
        for strange in STRANGE_TUPLES:
            self.assert_taken((strange, strange), ("again", 1, 0))
            self.assert_refused((strange, ("send", 1, 1)), ("again", 1, 0))

    def test_true_in_a_log_is_no_integer(self):
        log = (("compute", 1, 0), ("compute", True, 0), ("compute", 1, 0), ("compute", True, 0))
        self.assert_taken(log, ("again", 2, 0), ("again", 3, 1))
        self.assert_refused(log, ("again", 1, 0), ("again", 2, 1), ("again", 3, 0), ("again", 3, 2))


class Early(FaultCase):
    def test_direct_cause_that_does_not_stand_before(self):
        self.assert_taken(LOG, EARLY)
        self.assert_taken((("compute", 1, 1),), ("early", 0, ("compute", 1, 0)),
                          ("early", 0, ("value", 0, 1, 1)), ("early", 0, ("update", 1, 0, 0)))

    def test_direct_cause_that_stands_before(self):
        # The reply stands behind index 5, and before index 7.
        self.assert_refused(LOG, ("early", 7, ("reply", 0, 0)), ("early", 1, ("request", 0, 0)))
        self.assert_refused(LOG, ("early", 6, ("read", 0, 0)))
        log = (("request", 0, 0), ("request", 1, 0), ("read", 0, 0))
        self.assert_refused(log, ("early", 2, ("request", 0, 0)))

    def test_what_is_no_direct_cause_of_it(self):
        self.assert_refused(LOG, ("early", 5, ("read", 0, 0)), ("early", 5, ("request", 0, 0)),
                            ("early", 5, ("reply", 1, 0)), ("early", 5, ("value", 0, 0, 0)),
                            ("early", 5, ("compute", 0, 0)), ("early", 0, ("ack", 0, 2)),
                            ("early", 5, ("update", 0, 0, 0)), ("early", 3, ("read", 1, 0)))

    def test_tuple_that_is_no_event(self):
        self.assert_refused(LOG, ("early", 2, ("request", 0, 0)), ("early", 2, ("read", 1, 0)))
        for strange in STRANGE_TUPLES:
            for cause in (("request", 1, 0), ("reply", 0, 0), ("compute", 1, 0), strange):
                self.assert_refused((strange,), ("early", 0, cause))

    def test_cause_that_is_no_event(self):
        for odd in NOT_TUPLES + STRANGE_TUPLES + (deep_tuple(), ["reply", 0, 0], ("reply", False, 0),
                                             ("reply", 0, 0, 0), (Refusing(), 0, 0)):
            self.assert_refused(LOG, ("early", 5, odd), ("early", 0, odd), ("early", 2, odd))

    def test_all_events_alone_and_behind_their_causes(self):
        for event in events(*RUN):
            before = causes(*RUN, event)
            for cause in events(*RUN):
                self.assert_judged(cause in before, (event,), ("early", 0, cause))
                rest = tuple([other for other in before if other != cause])
                self.assert_judged(cause in before, rest + (event, cause),
                                   ("early", len(rest), cause))
                paper = ("early", len(before), cause)
                self.assert_judged(False, before + (event,), paper)

    def test_true_in_a_log_is_no_integer(self):
        log = (("compute", True, 0), ("compute", 1, 1))
        self.assert_taken(log, ("early", 1, ("compute", 1, 0)))
        self.assert_refused(log, ("early", 1, ("compute", True, 0)))

    def test_log_with_other_values_than_numbers_before(self):
        log = ((Refusing(), 1, 0), (["compute"], 1, 0), ("compute", 1, 1))
        self.assert_taken(log, ("early", 2, ("compute", 1, 0)))


class Indexes(FaultCase):
    def test_indexes_out_of_range(self):
        for index in (-1, -4, -6, -8, -9, 8, 9, FAR, -FAR):
            self.assert_refused(LOG, ("strange", index), ("again", index, 0),
                                ("early", index, ("reply", 0, 0)), ("again", 4, index))
        for index in (-1, 0, 1):
            self.assert_refused((), ("strange", index), ("again", index, 0), ("again", index, -1),
                                ("early", index, ("reply", 0, 0)))

    def test_indexes_that_are_no_integers(self):
        for odd in NOT_INTEGERS:
            self.assert_refused(LOG, ("strange", odd), ("again", odd, 0), ("again", 4, odd),
                                ("early", odd, ("reply", 0, 0)))

    def test_true_and_false_in_place_of_indexes(self):
        strange = (("send", 0, 0), ("send", 0, 0))
        self.assert_taken(strange, ("strange", 0), ("strange", 1), ("again", 1, 0))
        self.assert_refused(strange, ("strange", False), ("strange", True), ("again", True, 0),
                            ("again", 1, False), ("again", True, False))
        early = (("reply", 1, 0), ("reply", 0, 0))
        self.assert_taken(early, ("early", 1, ("read", 0, 0)))
        self.assert_refused(early, ("early", True, ("read", 0, 0)),
                            ("early", False, ("read", 1, 0)))


class NoPapers(FaultCase):
    def test_other_values(self):
        for odd in NOT_TUPLES + ((), ((),), deep_tuple(), "strange", ("strange",), ("again",),
                                 ("early",), (2,), (2, 2), (None, None, None), LOG[0], LOG):
            self.assert_refused(LOG, odd)

    def test_lists_in_place_of_tuples(self):
        self.assert_taken(LOG, ("strange", 2), ("again", 4, 0), EARLY)
        self.assert_refused(LOG, ["strange", 2], ["again", 4, 0], list(EARLY),
                            ("early", 5, ["reply", 0, 0]))

    def test_other_first_words(self):
        for odd in NOT_TUPLES + ("", "Strange", "late", "again ", ("strange",), b"early"):
            self.assert_refused(LOG, (odd, 2), (odd, 4, 0), (odd, 5, ("reply", 0, 0)))

    def test_words_with_what_belongs_to_another_one(self):
        self.assert_refused(LOG, ("strange", 4, 0), ("strange", 5, ("reply", 0, 0)),
                            ("again", 2), ("again", 4), ("early", 2), ("early", 5),
                            ("again", 5, ("reply", 0, 0)), ("early", 4, 0))

    def test_tuples_of_other_lengths(self):
        self.assert_refused(LOG, ("strange", 2, 2), ("strange", 2, None), ("strange", 2, 2, 2),
                            ("again", 4, 0, 0), ("again", 4, 0, None), EARLY + (0,),
                            EARLY + EARLY[2:])


class Maker(FaultCase):
    def assert_made(self, log, paper, run=RUN):
        self.assertEqual(explain_fault(*run, log), paper)
        self.assert_judged(True, log, paper, run)
        self.assertEqual(audit(*run, list(log)), paper[1])

    def test_orderly_logs(self):
        for run in RUNS:
            listed = events(*run)
            for length in range(0, len(listed) + 1, 3):
                self.assertIsNone(explain_fault(*run, listed[:length]))
            self.assertIsNone(explain_fault(*run, listed))
        self.assertIsNone(explain_fault(EXAMPLE, SETUP, 3, ()))

    def test_no_paper_on_an_orderly_log_is_taken(self):
        log = events(*RUN)[:20]
        for index in range(len(log)):
            self.assert_refused(log, ("strange", index))
            for earlier in range(len(log)):
                self.assert_refused(log, ("again", index, earlier))
            for cause in events(*RUN):
                self.assert_refused(log, ("early", index, cause))

    def test_first_fault_of_several(self):
        self.assert_made(LOG, ("strange", 2))
        self.assert_made(LOG[:2] + LOG[3:], ("again", 3, 0))
        self.assert_made(LOG[:2] + LOG[5:], ("early", 2, ("reply", 0, 0)))
        self.assert_made(LOG[:2] + (LOG[3], LOG[7], LOG[0]), ("early", 3, ("reply", 0, 0)))

    def test_strange_tuples(self):
        for strange in STRANGE_TUPLES:
            self.assert_made((strange,), ("strange", 0))
            self.assert_made((("compute", 1, 0), ("request", 0, 0), strange), ("strange", 2))
            self.assert_made((strange, strange), ("strange", 0))

    def test_again_with_the_least_earlier_index(self):
        log = (("request", 0, 0), ("compute", 1, 0), ("request", 1, 0))
        for earlier, event in enumerate(log):
            self.assert_made(log + (event,), ("again", 3, earlier))
            self.assert_made(log + (event, event), ("again", 3, earlier))
            self.assert_made(log + (event, ("send", 0, 0)), ("again", 3, earlier))

    def test_true_behind_the_event_that_it_is_equal_to(self):
        log = (("compute", 1, 0), ("compute", True, 0))
        self.assert_made(log, ("strange", 1))

    def test_early_with_a_cause_that_is_missing(self):
        log = events(*RUN)
        for at, event in enumerate(log):
            for cause in causes(*RUN, event):
                rest = tuple([other for other in log[:at] if other != cause])
                end = audit(*RUN, list(rest + (event,)))
                found = explain_fault(*RUN, rest + (event,))
                self.assertEqual(found, ("early", end, cause))
                self.assert_taken(rest + (event,), found)

    def test_early_with_one_of_several_causes(self):
        for event in (("compute", 1, 1), ("compute", 0, 0), ("request", 2, 2)):
            kind, index, cause = explain_fault(*RUN, (event,))
            self.assertEqual((kind, index), ("early", 0))
            self.assertIn(cause, causes(*RUN, event))
            self.assert_taken((event,), (kind, index, cause))

    def test_one_is_taken_exactly_if_the_log_is_not_orderly(self):
        for run in RUNS[:4]:
            listed = events(*run)
            for step in (1, 2, 5):
                for start in range(0, len(listed), 3):
                    log = listed[:start] + listed[start::step] + listed[start + 1:start + 3]
                    found = explain_fault(*run, log)
                    self.assertIs(found is None, is_orderly(*run, list(log)))
                    if found is not None:
                        self.assert_made(log, found, run)


class Unchanged(Case):
    def test_what_was_passed_is_unchanged(self):
        problem = [[5, 0], [[[[0, 1], 9]], [], [[[1], 5], [[0], 0]]], 2, 3]
        listed = events(problem, [2, 1, 1], 0)
        for log in (listed, listed[::-1], listed[:4] + listed, ((),) + listed, ()):
            self.assert_unchanged(explain_fault, problem, [2, 1, 1], 0, log)
            for paper in (("strange", 0), ("again", 4, 0), ["strange", 0],
                          ("early", 0, ("write", 0, 2)), ("early", 0, ["write", 0, 2])):
                self.assert_unchanged(judge_fault, problem, [2, 1, 1], 0, log, paper)


if __name__ == "__main__":
    unittest.main()
