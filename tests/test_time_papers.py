"""Point 14: papers on times; point 2: what is passed is unchanged."""

import unittest

from rowsahead.errors import BadDelays, NoSuchEvent
from rowsahead.events import causes, events
from rowsahead.times import explain_time, judge_time, timetable
from tests.helper import (
    EXAMPLE, NOT_INTEGERS, NOT_TUPLES, RUNS, SETUP, Case, Refusing, deep_tuple,
)

RUN = (EXAMPLE, SETUP, 0)
DELAYS = (1, 2, 3, 4, 5, 6, 7, 8)
# By the timetable that is written out in test_times.py, this event takes place at 25; row 0 is
# as late as row 1 there.
EVENT = ("value", 1, 1, 0)
WAY = (
    ("request", 1, 0), ("read", 1, 0), ("reply", 1, 0), ("value", 1, 0, 0), ("compute", 0, 0),
    ("update", 1, 0, 0), EVENT,
)
LISTED = events(*RUN)
TIMES = dict(timetable(*RUN, DELAYS))
ROWS = tuple([TIMES[event] for event in LISTED])
PLACE = LISTED.index(EVENT)
FAR = 10 ** 40


def judge(time, paper, event=EVENT):
    return judge_time(*RUN, DELAYS, event, time, paper)


class PaperCase(Case):
    def assert_taken(self, time, paper, event=EVENT):
        self.assertIs(judge(time, paper, event), True)

    def assert_refused(self, time, paper, event=EVENT):
        self.assertIs(judge(time, paper, event), False)

    def assert_never_taken(self, paper):
        for time in (25, 24, 26, 0, -1, FAR, -FAR):
            self.assert_refused(time, paper)


class More(PaperCase):
    def test_longest_way(self):
        for time in (24, 23, 0, -1, -FAR):
            self.assert_taken(time, ("more", WAY))
        for time in (25, 26, FAR):
            self.assert_refused(time, ("more", WAY))

    def test_shorter_ways(self):
        # The length of the last two events is 10, that of the last one 4.
        self.assert_taken(9, ("more", WAY[-2:]))
        self.assert_refused(10, ("more", WAY[-2:]))
        self.assert_taken(3, ("more", (EVENT,)))
        self.assert_refused(4, ("more", (EVENT,)))

    def test_way_through_another_row(self):
        other = (("request", 0, 0), ("read", 0, 0), ("reply", 0, 0), ("value", 0, 0, 0))
        self.assert_taken(24, ("more", other + WAY[4:]))

    def test_way_without_length(self):
        found = judge_time(*RUN, (0,) * 8, EVENT, -1, ("more", WAY))
        self.assertIs(found, True)
        self.assertIs(judge_time(*RUN, (0,) * 8, EVENT, 0, ("more", WAY)), False)


class Ways(PaperCase):
    def assert_no_way(self, way):
        self.assert_never_taken(("more", way))
        self.assert_never_taken(("least", way, ROWS))

    def test_way_that_skips_an_event(self):
        for place in range(1, len(WAY) - 1):
            self.assert_no_way(WAY[:place] + WAY[place + 1:])

    def test_way_that_ends_elsewhere(self):
        self.assert_no_way(WAY[:-1])
        self.assert_no_way(WAY + (("compute", 0, 1),))
        self.assert_no_way(WAY[:-1] + (("value", 0, 1, 1),))
        self.assert_no_way((("request", 0, 0),))

    def test_way_in_another_order(self):
        self.assert_no_way(WAY[::-1])
        self.assert_no_way(WAY + (EVENT,))
        self.assert_no_way(WAY[:4] + WAY)
        self.assert_no_way((EVENT, EVENT))

    def test_events_between_which_there_is_no_direct_cause(self):
        self.assert_no_way(WAY[:3] + (("value", 0, 0, 0),) + WAY[4:])
        self.assert_no_way((("compute", 1, 0),) + WAY[-2:])
        self.assert_no_way((("request", 0, 0),) + WAY)

    def test_what_is_no_event(self):
        for odd in NOT_TUPLES + ((), ("value",), ("value", 1, 1, True), ("value", True, 1, 0),
                                 ("request", 2, 0), deep_tuple(), (Refusing(), 1, 1, 0)):
            self.assert_no_way((odd, EVENT))
            self.assert_no_way(WAY[:-1] + (odd,))
            self.assert_no_way(WAY[:2] + (odd,) + WAY[3:])

    def test_what_is_no_tuple_of_events(self):
        for odd in NOT_TUPLES + ((), list(WAY), EVENT, (WAY,), deep_tuple()):
            self.assert_no_way(odd)


class Less(PaperCase):
    def test_earliest_rows(self):
        for time in (26, 27, FAR):
            self.assert_taken(time, ("less", ROWS))
        for time in (25, 24, 0, -FAR):
            self.assert_refused(time, ("less", ROWS))

    def test_later_rows(self):
        rows = tuple([time + 3 for time in ROWS])
        self.assert_taken(29, ("less", rows))
        self.assert_refused(28, ("less", rows))
        late = ROWS[:-1] + (FAR,)
        self.assert_taken(26, ("less", late))


class Rows(PaperCase):
    def assert_no_rows(self, rows):
        self.assert_never_taken(("less", rows))
        self.assert_never_taken(("least", WAY, rows))

    def test_other_numbers_of_rows(self):
        self.assert_no_rows(ROWS[:-1])
        self.assert_no_rows(ROWS + (100,))
        self.assert_no_rows(())
        self.assert_no_rows(ROWS[1:])

    def test_each_number_that_is_too_small(self):
        for place, time in enumerate(ROWS):
            for less in (time - 1, 0, -1, -FAR):
                self.assert_no_rows(ROWS[:place] + (less,) + ROWS[place + 1:])

    def test_each_number_that_is_too_great_for_a_later_one(self):
        for place, event in enumerate(LISTED):
            late = ROWS[:place] + (ROWS[place] + 100,) + ROWS[place + 1:]
            needed = [cause for later in LISTED for cause in causes(*RUN, later)]
            self.assertIs(judge(FAR, ("less", late)), event not in needed)

    def test_a_single_cause_that_is_too_late(self):
        # Without the first of its causes, the compute of batch 1 would be early enough.
        event = ("compute", 0, 1)
        place = LISTED.index(event)
        for cause in causes(*RUN, event):
            rows = [TIMES[other] + 50 for other in LISTED]
            rows[LISTED.index(cause)] = rows[place] - DELAYS[4] + 1
            self.assertIs(judge(FAR, ("less", tuple(rows))), False)

    def test_numbers_that_are_no_integers(self):
        for odd in NOT_INTEGERS:
            for place in (0, PLACE, len(ROWS) - 1):
                self.assert_no_rows(ROWS[:place] + (odd,) + ROWS[place + 1:])

    def test_true_that_would_keep_the_delays(self):
        self.assertEqual(ROWS[0], 1)
        self.assert_no_rows((True,) + ROWS[1:])
        zeros = (0,) * len(ROWS)
        self.assertIs(judge_time(*RUN, (0,) * 8, EVENT, 1, ("less", zeros)), True)
        for place in range(len(ROWS)):
            rows = zeros[:place] + (False,) + zeros[place + 1:]
            self.assertIs(judge_time(*RUN, (0,) * 8, EVENT, 1, ("less", rows)), False)
            self.assertIs(judge_time(*RUN, (0,) * 8, EVENT, 0, ("least", WAY, rows)), False)

    def test_what_is_no_tuple_of_integers(self):
        for odd in NOT_TUPLES + (list(ROWS), (ROWS,), TIMES, WAY, deep_tuple()):
            self.assert_no_rows(odd)


class Least(PaperCase):
    def test_way_and_rows_that_meet(self):
        self.assert_taken(25, ("least", WAY, ROWS))
        for time in (24, 26, 0, -25, FAR):
            self.assert_refused(time, ("least", WAY, ROWS))

    def test_way_that_is_too_short(self):
        for start in range(1, len(WAY)):
            for time in (25, 24, 4, 10):
                self.assert_refused(time, ("least", WAY[start:], ROWS))

    def test_rows_that_are_too_late(self):
        late = tuple([time + 1 for time in ROWS])
        self.assert_refused(25, ("least", WAY, late))
        self.assert_refused(26, ("least", WAY, late))

    def test_rows_that_are_late_at_other_events_alone(self):
        late = ROWS[:-1] + (ROWS[-1] + 9,)
        self.assert_taken(25, ("least", WAY, late))

    def test_rows_and_way_the_other_way_round(self):
        self.assert_never_taken(("least", ROWS, WAY))


class NoPapers(PaperCase):
    def test_other_values(self):
        for odd in NOT_TUPLES + ((), ((),), deep_tuple(), WAY, ROWS, EVENT, "more", (None, None)):
            self.assert_never_taken(odd)

    def test_lists_in_place_of_tuples(self):
        for paper in (["more", WAY], ["less", ROWS], ["least", WAY, ROWS]):
            self.assert_never_taken(paper)

    def test_other_first_words(self):
        words = ("", "More", "MORE", "greater", "most", "least ", b"more", ("more",), ["more"])
        for odd in NOT_TUPLES + words:
            for shown in ((WAY,), (ROWS,), (WAY, ROWS)):
                self.assert_never_taken((odd,) + shown)

    def test_words_with_what_belongs_to_another_one(self):
        for paper in (("more", ROWS), ("less", WAY), ("least", WAY), ("least", ROWS),
                      ("more", WAY, ROWS), ("less", WAY, ROWS), ("less", ROWS, WAY)):
            self.assert_never_taken(paper)

    def test_tuples_of_other_lengths(self):
        for word in ("more", "less", "least"):
            for shown in ((), (WAY, WAY), (ROWS, ROWS), (WAY, ROWS, 25), (WAY, ROWS, WAY, ROWS),
                          (25,), (25, WAY), (WAY, None), (None, ROWS), (ROWS, None)):
                self.assert_never_taken((word,) + shown)
        self.assert_never_taken(("more", WAY, 24))
        self.assert_never_taken(("less", ROWS, 26))


class Maker(PaperCase):
    def test_its_paper_is_taken(self):
        kinds = {-FAR: "more", -1: "more", 0: "least", 1: "less", FAR: "less"}
        for run in RUNS:
            for delays in (DELAYS, (0,) * 8, (3, 0, 1, 0, 2, 0, 0, 9), (1000,) * 8):
                for event, time in timetable(*run, delays)[::3]:
                    for apart, kind in kinds.items():
                        paper = explain_time(*run, delays, event, time + apart)
                        self.assertIs(type(paper), tuple)
                        self.assertEqual(paper[0], kind)
                        self.assertIs(
                            judge_time(*run, delays, event, time + apart, paper), True)

    def test_its_paper_is_taken_for_every_event_of_the_example(self):
        for event, time in TIMES.items():
            for asked in range(time - 3, time + 4):
                paper = explain_time(*RUN, DELAYS, event, asked)
                self.assert_taken(asked, paper, event)
                kind = "more" if asked < time else "less" if asked > time else "least"
                self.assertEqual(paper[0], kind)

    def test_its_paper_shows_nothing_else(self):
        for asked in (24, 25, 26):
            paper = explain_time(*RUN, DELAYS, EVENT, asked)
            for other in (23, 24, 25, 26, 27):
                same_side = (other < 25) == (asked < 25) and (other > 25) == (asked > 25)
                self.assertIs(judge(other, paper), same_side)


class Errors(PaperCase):
    def test_bad_delays(self):
        for delays in NOT_TUPLES + ((), DELAYS[:7], DELAYS + (1,), (-1,) * 8, (1001,) * 8):
            for event in (EVENT, ("value", 1, 1, 1)):
                with self.assertRaises(BadDelays):
                    judge_time(*RUN, delays, event, 25, ("more", WAY))
                with self.assertRaises(BadDelays):
                    explain_time(*RUN, delays, event, 25)

    def test_no_such_event(self):
        for event in ((), ("value",), ("value", 1, 1), ("value", 1, 1, 1), ("compute", 2, 0),
                      ("compute", 0, 3), ("value", True, 1, 0), ("request", 0, 1)):
            for time in (0, 25, FAR):
                with self.assertRaises(NoSuchEvent):
                    judge_time(*RUN, DELAYS, event, time, ("more", WAY))
                with self.assertRaises(NoSuchEvent):
                    judge_time(*RUN, DELAYS, event, time, None)
                with self.assertRaises(NoSuchEvent):
                    explain_time(*RUN, DELAYS, event, time)

    def test_a_run_without_events(self):
        with self.assertRaises(NoSuchEvent):
            explain_time(EXAMPLE, SETUP, 3, DELAYS, EVENT, 25)


class Unchanged(Case):
    def test_what_was_passed_is_unchanged(self):
        problem = [[5, 0], [[[[0, 1], 9]], [], [[[1], 5], [[0], 0]]], 2, 3]
        passed = (problem, [2, 1, 1], 0, DELAYS, ("update", 1, 2, 0))
        for time in (0, 60, 500):
            self.assert_unchanged(explain_time, *passed, time)
            paper = explain_time(*passed, time)
            self.assert_unchanged(judge_time, *passed, time, paper)
            self.assert_unchanged(judge_time, *passed, time, list(paper))
            self.assert_unchanged(judge_time, *passed, time, (paper[0], list(paper[1])))


if __name__ == "__main__":
    unittest.main()
