"""The events of a run in canonical order, their direct causes, and the plan of a run."""

from rowsahead.errors import NoSuchEvent
from rowsahead.problems import is_tuple
from rowsahead.stays import stays, users, uses

# The kinds of events in canonical order.
KINDS = ("request", "read", "reply", "value", "compute", "update", "write", "ack")
# The kinds of events with a single cause that has the same row and batch.
KINDS_BEFORE = {"read": "request", "reply": "read", "ack": "write"}


def events(problem, setup, first):
    """Return the tuple of the events of a run in canonical order."""
    known = stays(problem, setup, first)
    found = []
    for batch in range(first, len(problem[1])):
        found.extend(_events_of_batch(problem, setup, known, batch))
    return tuple(found)


def canonical_key(event):
    """Return what the events of a run are sorted by in canonical order."""
    return event[2], KINDS.index(event[0]), event[1], event[3:]


def _events_of_batch(problem, setup, known, batch):
    opening = [row for row, opened, closed in known if opened == batch]
    closing = [row for row, opened, closed in known if closed == batch]
    handed = _handovers(problem, setup, batch)
    return (
        [("request", row, batch) for row in opening]
        + [("read", row, batch) for row in opening]
        + [("reply", row, batch) for row in opening]
        + [("value", row, batch, user) for row, user in handed]
        + [("compute", trainer, batch) for trainer in range(setup[0])]
        + [("update", row, batch, user) for row, user in handed]
        + [("write", row, batch) for row in closing]
        + [("ack", row, batch) for row in closing]
    )


def _handovers(problem, setup, batch):
    """Return the pairs of a row and one of its users in a batch, ascending."""
    row_count = len(problem[0])
    return [(row, user) for row in range(row_count) for user in users(problem, setup, row, batch)]


class Course:
    """The events of a run, with what their direct causes follow from."""

    def __init__(self, problem, setup, first):
        self.setup = setup
        self.row_count = len(problem[0])
        self.listed = events(problem, setup, first)
        self.places = {event: place for place, event in enumerate(self.listed)}
        self.updates = [event for event in self.listed if event[0] == "update"]
        self.earlier = _earlier_uses(problem, first)

    def has(self, value):
        """Tell whether a value, whatever it is, is an event of the run."""
        return is_like_an_event(value) and value in self.places

    def causes_of(self, event):
        """Return the tuple of the direct causes of an event of the run, in canonical order."""
        named = self._named_causes(event)
        places = sorted([self.places[cause] for cause in named if cause in self.places])
        return tuple([self.listed[place] for place in places])

    def _named_causes(self, event):
        """Return what the table of causes names, with tuples that may be no events of the run."""
        kind, number, batch = event[:3]
        if kind == "request":
            return self._before_request(number, batch)
        if kind == "value":
            return self._before_value(number, batch)
        if kind == "compute":
            return self._before_compute(number, batch)
        if kind == "update":
            return [("compute", event[3], batch)]
        if kind == "write":
            return self._updates_of_row(number, batch)
        return [(KINDS_BEFORE[kind], number, batch)]

    def _before_request(self, row, batch):
        window = self.setup[1]
        named = self._updates_until(batch - window)
        if (row, batch) in self.earlier:
            named.append(("ack", row, self.earlier[row, batch]))
        return named

    def _before_value(self, row, batch):
        window = self.setup[1]
        earlier = self.earlier.get((row, batch))
        if earlier is not None and batch <= earlier + window:
            return self._updates_of_row(row, earlier)
        return [("reply", row, batch)]

    def _before_compute(self, trainer, batch):
        lead = self.setup[2]
        named = self._updates_until(batch - lead)
        named.append(("compute", trainer, batch - 1))
        named.extend([("value", row, batch, trainer) for row in range(self.row_count)])
        return named

    def _updates_until(self, batch):
        return [update for update in self.updates if update[2] <= batch]

    def _updates_of_row(self, row, batch):
        trainers = self.setup[0]
        return [("update", row, batch, trainer) for trainer in range(trainers)]


def is_like_an_event(value):
    """Tell whether a value, whatever it is, is a tuple that may be looked up among events."""
    # Looked up among the events, a list would be an error, and True would be found as 1.
    if not is_tuple(value, 3, 4):
        return False
    kind, *numbers = value
    return type(kind) is str and all([type(number) is int for number in numbers])


def _earlier_uses(problem, first):
    """Return a dict from (row, batch that uses it) to the batch of the run that used it before."""
    earlier = {}
    for row in range(len(problem[0])):
        used = uses(problem, first, row)
        for before, batch in zip(used, used[1:]):
            earlier[row, batch] = before
    return earlier


def causes(problem, setup, first, event):
    """Return the tuple of the direct causes of an event of a run, in canonical order."""
    course = Course(problem, setup, first)
    if not course.has(event):
        raise NoSuchEvent("this is no event of the run")
    return course.causes_of(event)


def plan(problem, setup, first):
    """Return (fetches, handovers, steps, bound): the plan of a run."""
    window, lead = setup[1], setup[2]
    listed = events(problem, setup, first)
    handovers = [event for event in listed if event[0] == "value"]
    bound = _most_rows(problem, first, window + lead)
    return len(stays(problem, setup, first)), len(handovers), len(listed), bound


def _most_rows(problem, first, span):
    batches = problem[1]
    counts = [_count_rows(batches[t:t + span]) for t in range(first, len(batches))]
    return max(counts, default=0)


def _count_rows(batches):
    return len({row for batch in batches for looked_up, target in batch for row in looked_up})
