"""Point 10: direct causes of events, and what is no event; point 2: what is passed is unchanged."""

import unittest

from rowsahead.errors import NoSuchEvent
from rowsahead.events import causes, events
from rowsahead.stays import users, uses
from tests.helper import EXAMPLE, NOT_INTEGERS, NOT_TUPLES, SETUP, Case, used_in

# Row 0 is used in the batches 0, 2 and 5, row 1 in 1, 2 and 5, row 2 in 3, row 3 in none. With two
# trainers both of them use row 0 in batch 0 and row 1 in batch 2.
LINES = (
    (4, 4, 4, 4),
    (
        (((0,), 1), ((0,), 2)),
        (((1,), 3),),
        (((1, 0), 4), ((1,), 5)),
        (((2,), 6),),
        (),
        (((1,), 7), ((0,), 8)),
    ),
    1, 9,
)
UPDATES_0 = (("update", 0, 0, 0), ("update", 0, 0, 1))
UPDATES_1 = (("update", 1, 1, 0),)
UPDATES_2 = (("update", 0, 2, 0), ("update", 1, 2, 0), ("update", 1, 2, 1))
UPDATES_3 = (("update", 2, 3, 0),)


class CausesOfEachKind(unittest.TestCase):
    def assert_causes(self, window, lead, first, event, expected):
        found = causes(LINES, (2, window, lead), first, event)
        self.assertEqual(found, tuple(expected))

    def test_example_of_the_document(self):
        self.assertEqual(causes(EXAMPLE, SETUP, 0, ("value", 1, 1, 0)), (("update", 1, 0, 0),))

    def test_request_without_causes(self):
        self.assert_causes(2, 1, 0, ("request", 0, 0), ())
        self.assert_causes(2, 1, 0, ("request", 1, 1), ())
        self.assert_causes(4, 1, 0, ("request", 2, 3), ())

    def test_request_behind_updates_by_window(self):
        self.assert_causes(1, 20, 0, ("request", 1, 1), UPDATES_0)
        self.assert_causes(1, 20, 0, ("request", 2, 3), UPDATES_0 + UPDATES_1 + UPDATES_2)
        self.assert_causes(2, 20, 0, ("request", 2, 3), UPDATES_0 + UPDATES_1)
        self.assert_causes(3, 20, 0, ("request", 2, 3), UPDATES_0)

    def test_request_behind_ack_and_updates(self):
        for row in (0, 1):
            self.assert_causes(
                2, 1, 0, ("request", row, 5),
                UPDATES_0 + UPDATES_1 + UPDATES_2 + (("ack", row, 2),) + UPDATES_3)
        self.assert_causes(1, 1, 0, ("request", 0, 2), UPDATES_0 + (("ack", 0, 0),) + UPDATES_1)

    def test_request_behind_ack_with_no_later_update(self):
        problem = used_in(4, (0, 2), (3,))
        self.assertEqual(
            causes(problem, (2, 1, 1), 0, ("request", 0, 2)), (("update", 0, 0, 0), ("ack", 0, 0)))

    def test_request_is_not_behind_earlier_acks(self):
        problem = used_in(7, (0, 3, 6))
        self.assertEqual(
            causes(problem, (1, 2, 1), 0, ("request", 0, 6)),
            (("update", 0, 0, 0), ("update", 0, 3, 0), ("ack", 0, 3)))

    def test_request_at_the_beginning_of_a_later_run(self):
        self.assert_causes(2, 1, 2, ("request", 0, 2), ())
        self.assert_causes(1, 1, 2, ("request", 1, 2), ())
        self.assert_causes(2, 1, 2, ("request", 2, 3), ())
        self.assert_causes(1, 1, 2, ("request", 2, 3), UPDATES_2)
        self.assert_causes(2, 1, 2, ("request", 0, 5), UPDATES_2 + (("ack", 0, 2),) + UPDATES_3)
        self.assert_causes(2, 1, 3, ("request", 0, 5), UPDATES_3)
        self.assert_causes(3, 1, 3, ("request", 0, 5), ())
        self.assert_causes(1, 1, 5, ("request", 0, 5), ())

    def test_read_and_reply(self):
        self.assert_causes(2, 1, 0, ("read", 0, 0), [("request", 0, 0)])
        self.assert_causes(2, 1, 0, ("read", 1, 5), [("request", 1, 5)])
        self.assert_causes(2, 1, 0, ("reply", 0, 0), [("read", 0, 0)])
        self.assert_causes(2, 1, 2, ("reply", 0, 5), [("read", 0, 5)])

    def test_value_behind_reply(self):
        for user in (0, 1):
            self.assert_causes(2, 1, 0, ("value", 0, 0, user), [("reply", 0, 0)])
            self.assert_causes(2, 1, 2, ("value", 1, 2, user), [("reply", 1, 2)])
        self.assert_causes(1, 1, 0, ("value", 0, 2, 0), [("reply", 0, 2)])
        self.assert_causes(2, 1, 0, ("value", 0, 5, 1), [("reply", 0, 5)])
        self.assert_causes(3, 1, 3, ("value", 0, 5, 1), [("reply", 0, 5)])

    def test_value_behind_updates(self):
        self.assert_causes(2, 1, 0, ("value", 0, 2, 0), UPDATES_0)
        self.assert_causes(3, 1, 0, ("value", 0, 2, 0), UPDATES_0)
        self.assert_causes(1, 1, 0, ("value", 1, 2, 0), UPDATES_1)
        self.assert_causes(1, 1, 0, ("value", 1, 2, 1), UPDATES_1)
        self.assert_causes(3, 1, 0, ("value", 0, 5, 1), UPDATES_2[:1])
        self.assert_causes(3, 1, 2, ("value", 1, 5, 0), UPDATES_2[1:])

    def test_compute_of_the_first_batch(self):
        self.assert_causes(2, 1, 0, ("compute", 0, 0), [("value", 0, 0, 0)])
        self.assert_causes(2, 1, 0, ("compute", 1, 0), [("value", 0, 0, 1)])
        self.assert_causes(2, 1, 2, ("compute", 0, 2), [("value", 0, 2, 0), ("value", 1, 2, 0)])
        self.assert_causes(2, 1, 2, ("compute", 1, 2), [("value", 1, 2, 1)])
        self.assert_causes(2, 1, 3, ("compute", 1, 3), ())
        self.assert_causes(2, 1, 4, ("compute", 0, 4), ())

    def test_compute_with_and_without_values(self):
        self.assert_causes(2, 20, 0, ("compute", 0, 1), [("compute", 0, 0), ("value", 1, 1, 0)])
        self.assert_causes(2, 20, 0, ("compute", 1, 1), [("compute", 1, 0)])
        self.assert_causes(2, 20, 0, ("compute", 1, 4), [("compute", 1, 3)])
        self.assert_causes(2, 20, 0, ("compute", 1, 5), [("compute", 1, 4), ("value", 0, 5, 1)])
        self.assert_causes(
            2, 20, 0, ("compute", 0, 2),
            [("compute", 0, 1), ("value", 0, 2, 0), ("value", 1, 2, 0)])

    def test_compute_behind_updates_by_lead(self):
        values = (("value", 0, 2, 0), ("value", 1, 2, 0))
        before = (("compute", 0, 1),)
        self.assert_causes(2, 1, 0, ("compute", 0, 2), UPDATES_0 + before + UPDATES_1 + values)
        self.assert_causes(2, 2, 0, ("compute", 0, 2), UPDATES_0 + before + values)
        self.assert_causes(2, 3, 0, ("compute", 0, 2), before + values)
        self.assert_causes(
            2, 1, 0, ("compute", 0, 4),
            UPDATES_0 + UPDATES_1 + UPDATES_2 + (("compute", 0, 3),) + UPDATES_3)
        self.assert_causes(
            2, 2, 0, ("compute", 1, 4), UPDATES_0 + UPDATES_1 + UPDATES_2 + (("compute", 1, 3),))

    def test_compute_of_a_later_run_is_behind_its_own_updates(self):
        self.assert_causes(
            2, 1, 2, ("compute", 0, 3), (("compute", 0, 2),) + UPDATES_2 + (("value", 2, 3, 0),))
        self.assert_causes(2, 2, 2, ("compute", 0, 3), [("compute", 0, 2), ("value", 2, 3, 0)])
        self.assert_causes(2, 1, 2, ("compute", 1, 3), (("compute", 1, 2),) + UPDATES_2)

    def test_update(self):
        for user in (0, 1):
            self.assert_causes(2, 1, 0, ("update", 0, 0, user), [("compute", user, 0)])
            self.assert_causes(1, 1, 2, ("update", 1, 2, user), [("compute", user, 2)])
        self.assert_causes(1, 1, 0, ("update", 0, 5, 1), [("compute", 1, 5)])

    def test_write_and_ack(self):
        self.assert_causes(2, 1, 0, ("write", 0, 2), UPDATES_2[:1])
        self.assert_causes(2, 1, 0, ("write", 1, 2), UPDATES_2[1:])
        self.assert_causes(1, 1, 0, ("write", 0, 0), UPDATES_0)
        self.assert_causes(3, 1, 0, ("write", 1, 5), [("update", 1, 5, 0)])
        self.assert_causes(2, 1, 0, ("ack", 0, 2), [("write", 0, 2)])
        self.assert_causes(1, 1, 0, ("ack", 0, 0), [("write", 0, 0)])

    def test_greater_window_and_lead(self):
        problem = used_in(20, (0,), (18,), (19,))
        update = ("update", 0, 0, 0)
        for event in (("request", 2, 19), ("compute", 0, 19)):
            with self.subTest(event=event):
                self.assertIn(update, causes(problem, (1, 19, 19), 0, event))
                self.assertNotIn(update, causes(problem, (1, 20, 20), 0, event))
                self.assertNotIn(update, causes(problem, (1, 19, 19), 1, event))

    def test_kinds_of_values(self):
        for event in events(LINES, (2, 2, 1), 0):
            found = causes(LINES, (2, 2, 1), 0, event)
            self.assertIs(type(found), tuple)
            for cause in found:
                self.assertIs(type(cause), tuple)
                self.assertEqual([type(part) for part in cause], [str] + [int] * (len(cause) - 1))


def is_next(problem, first, row, earlier, batch):
    later = [t for t in uses(problem, first, row) if t > earlier]
    return earlier in uses(problem, first, row) and later[:1] == [batch]


def is_cause(problem, setup, first, event, cause):
    """Tell whether the table names a pair of events of the run, each pair by itself."""
    trainers, window, lead = setup
    kind, number, t = event[:3]
    before, other, u = cause[:3]
    if kind == "request":
        by_ack = before == "ack" and other == number and is_next(problem, first, number, u, t)
        return by_ack or before == "update" and u + window <= t
    if kind == "value" and before == "update":
        return other == number and is_next(problem, first, number, u, t) and t <= u + window
    if kind == "value":
        return cause == ("reply", number, t)
    if kind == "compute" and before == "value":
        return u == t and cause[3] == number
    if kind == "compute":
        return cause == ("compute", number, t - 1) or before == "update" and u + lead <= t
    if kind == "update":
        return cause == ("compute", event[3], t)
    if kind == "write":
        return before == "update" and (other, u) == (number, t)
    return cause == ({"read": "request", "reply": "read", "ack": "write"}[kind], number, t)


class AllCauses(unittest.TestCase):
    def test_causes_are_what_the_table_names_for_each_pair_of_events(self):
        mixed = ((1, 1), ((((1,), 0), ((1, 0), 0), ((0,), 0)), (), (((1,), 0),)), 1, 1)
        gaps = used_in(7, (0, 1, 4, 6), (0, 3, 4), (2, 6), ())
        many_rows = ((7,) * 6, ((((5, 4), 1),), (), (((3, 5), 1), ((4,), 1))), 1, 1)
        for problem in (EXAMPLE, LINES, mixed, gaps, many_rows):
            for setup in ((1, 1, 1), (2, 1, 3), (2, 2, 1), (3, 3, 2), (4, 2, 2), (1, 20, 20)):
                for first in range(len(problem[1]) + 1):
                    self.assert_all_causes(problem, setup, first)

    def assert_all_causes(self, problem, setup, first):
        listed = events(problem, setup, first)
        for event in listed:
            expected = [other for other in listed if is_cause(problem, setup, first, event, other)]
            with self.subTest(setup=setup, first=first, event=event):
                self.assertEqual(causes(problem, setup, first, event), tuple(expected))


class NoEvents(unittest.TestCase):
    """Values are told by their numbers, as some of them cannot be shown or compared."""

    def assert_no_events(self, values, setup=(2, 2, 1), first=0):
        for at, value in enumerate(values):
            with self.subTest(at=at, setup=setup, first=first):
                with self.assertRaises(NoSuchEvent) as caught:
                    causes(LINES, setup, first, value)
                self.assertIs(type(caught.exception), NoSuchEvent)

    def assert_events(self, values, setup=(2, 2, 1), first=0):
        for value in values:
            self.assertIs(type(causes(LINES, setup, first, value)), tuple)

    def test_other_kinds(self):
        kinds = ("", "Request", "request ", "requests", "send", b"request", 0, None, ("request",))
        self.assert_no_events([(kind, 0, 0) for kind in kinds])
        self.assert_no_events([(kind, 0, 0, 0) for kind in kinds])

    def test_other_lengths(self):
        self.assert_events([("request", 0, 0), ("value", 0, 0, 0), ("update", 0, 0, 0)])
        self.assert_no_events([
            (), ("request",), ("request", 0), ("request", 0, 0, 0), ("request", 0, 0, 0, 0),
            ("read", 0, 0, 0), ("reply", 0, 0, 0), ("compute", 0, 0, 0), ("compute", 0),
            ("value", 0, 0), ("value", 0, 0, 0, 0), ("value",), ("update", 0, 0),
            ("update", 0, 0, 0, 0), ("write", 0, 2, 0), ("write", 0), ("ack", 0, 2, 0), ("ack", 2),
        ])

    def test_parts_in_another_order(self):
        self.assert_no_events([(0, 0, "request"), (0, "request", 0), (0, 0, 0, "value")])

    def test_numbers_out_of_range(self):
        whole = events(LINES, (2, 2, 1), 0)
        for number in (-1, -2, -6, 6, 7, 20, 10 ** 30, -10 ** 30):
            for at in (1, 2, 3):
                self.assert_no_events(
                    [event[:at] + (number,) + event[at + 1:] for event in whole if at < len(event)])
        self.assert_no_events([("compute", 2, 0), ("compute", -1, 0), ("compute", 0, -1)])
        self.assert_no_events([("compute", 0, 6), ("request", 4, 0), ("value", 0, 0, 2)])

    def test_rows_that_are_not_fetched_or_written_back_with_that_batch(self):
        self.assert_events([("request", 0, 0), ("request", 0, 5), ("write", 0, 2), ("ack", 0, 5)])
        for kind in ("request", "read", "reply"):
            self.assert_no_events([(kind, 0, t) for t in (1, 2, 3, 4)])
            self.assert_no_events([(kind, 1, t) for t in (0, 2, 3, 4)])
            self.assert_no_events([(kind, 3, t) for t in range(6)])
        for kind in ("write", "ack"):
            self.assert_no_events([(kind, 0, t) for t in (0, 1, 3, 4)])
            self.assert_no_events([(kind, 1, t) for t in (0, 1, 3, 4)])
            self.assert_no_events([(kind, 3, t) for t in range(6)])
        self.assert_no_events([("request", 0, 5), ("write", 0, 2)], setup=(2, 3, 1))

    def test_rows_that_are_not_used_in_that_batch(self):
        for kind in ("value", "update"):
            self.assert_no_events([(kind, 0, t, user) for t in (1, 3, 4) for user in (0, 1)])
            self.assert_no_events([(kind, 3, t, user) for t in range(6) for user in (0, 1)])

    def test_trainers_that_are_no_users(self):
        self.assertEqual(users(LINES, (2, 2, 1), 0, 2), (0,))
        for kind in ("value", "update"):
            self.assert_events([(kind, 0, 2, 0), (kind, 0, 5, 1), (kind, 1, 1, 0)])
            self.assert_no_events([(kind, 0, 2, 1), (kind, 0, 5, 0), (kind, 1, 1, 1)])
            self.assert_no_events([(kind, 1, 2, 1), (kind, 0, 0, 1)], setup=(1, 2, 1))
        self.assert_no_events([("compute", 1, 0)], setup=(1, 2, 1))

    def test_batches_ahead_of_the_first_one(self):
        whole = events(LINES, (2, 2, 1), 0)
        for first in (1, 2, 4, 6):
            early = [event for event in whole if event[2] < first]
            self.assert_no_events(early, first=first)
        self.assert_no_events(whole, first=6)
        self.assert_events([("request", 0, 2), ("value", 0, 2, 0)], first=2)

    def test_events_of_a_later_run_are_none_of_an_earlier_one(self):
        self.assert_no_events([("request", 0, 2), ("read", 1, 2), ("reply", 0, 2)])

    def test_true_and_false_are_no_numbers(self):
        self.assert_events([("request", 0, 0), ("request", 1, 1), ("value", 0, 0, 1)])
        self.assert_no_events([
            ("request", False, 0), ("request", 0, False), ("request", True, 1),
            ("request", 1, True), ("value", 0, 0, True), ("value", 0, 0, False),
            ("compute", True, 0), ("ack", False, 2),
        ])

    def test_values_of_odd_kinds(self):
        self.assert_no_events(NOT_TUPLES + (["request", 0, 0], "request", {"request": 0}))
        for odd in NOT_INTEGERS:
            self.assert_no_events([
                (odd, 0, 0), (odd, 0, 0, 0), ("request", odd, 0), ("request", 0, odd),
                ("value", odd, 0, 0), ("value", 0, odd, 0), ("value", 0, 0, odd), (odd, odd, odd),
            ])


class Unchanged(Case):
    def test_what_was_passed_is_unchanged(self):
        for event in events(LINES, (2, 2, 1), 0):
            self.assert_unchanged(causes, LINES, (2, 2, 1), 0, event)

    def test_lists_would_be_unchanged(self):
        problem = [[5, 0], [[[[0, 1], 9]], [], [[[1], 5], [[0], 0]]], 2, 3]
        for event in events(problem, [2, 1, 1], 0):
            self.assert_unchanged(causes, problem, [2, 1, 1], 0, event)

    def test_call_that_raises_changes_nothing(self):
        problem = [[5, 0], [[[[0, 1], 9]], [], [[[1], 5], [[0], 0]]], 2, 3]
        passed = [problem, [2, 1, 1], 0, ("request", 0, 1)]
        before = repr(passed)
        with self.assertRaises(NoSuchEvent):
            causes(*passed)
        self.assertEqual(repr(passed), before)


if __name__ == "__main__":
    unittest.main()
