"""What a run has at one moment, which events are possible then, and what each of them does."""

from rowsahead.errors import CheckpointUnderWay, TooLate
from rowsahead.events import canonical_key
from rowsahead.stays import users
from rowsahead.training import updates

# The event that a row which is neither home nor cached waits for.
KINDS_OF_STAGES = {
    "requested": "read", "replying": "reply", "writing": "write", "acknowledging": "ack",
}
STAGES_AFTER = {
    "request": "requested", "read": "replying", "reply": "cached", "write": "acknowledging",
    "ack": "home",
}
# For a user of a cached row first the value is "sent", then it is "there"; then the update is
# "returned", and at last "back". In two of these places an event is waited for.
KINDS_OF_PLACES = {"sent": "value", "returned": "update"}


class State:
    """What a run has. Runs change copies only, so that a trial can go back to an earlier state."""

    def __init__(self, schedule, table):
        self.schedule = schedule
        self.log = ()
        self.stages = ["home"] * len(table)
        # The next batches of the rows, and the ones that were applied last: at first the one
        # before the run.
        self.due = [schedule.next_use(row, schedule.first) for row in range(len(table))]
        self.applied = [schedule.first - 1] * len(table)
        # The current values, and those on the server.
        self.worths = list(table)
        self.stored = list(table)
        # For each row a dict from its users in its next batch to pairs (place, update or None).
        self.parts = [{} for worth in table]
        # The next batches of the trainers.
        self.ahead = [schedule.first] * schedule.setup[0]
        # The last complete checkpoint, and the batch and the kept values of one that is under way.
        self.saved = (schedule.first, tuple(table))
        self.begun = None
        self.kept = {}

    def copied(self):
        """Return a state that can be changed while this one stays as it is."""
        twin = State(self.schedule, self.stored)
        twin.log = self.log
        twin.stages = list(self.stages)
        twin.due = list(self.due)
        twin.applied = list(self.applied)
        twin.worths = list(self.worths)
        twin.parts = [dict(parts) for parts in self.parts]
        twin.ahead = list(self.ahead)
        twin.saved = self.saved
        twin.begun = self.begun
        twin.kept = dict(self.kept)
        return twin

    def settled(self):
        """Return the settled batch."""
        return min(self.due)

    def finished(self):
        """Tell whether the run is finished."""
        behind = [batch for batch in self.ahead + self.due if batch < self.schedule.end]
        away = [stage for stage in self.stages if stage != "home"]
        return not behind and not away

    def enabled(self):
        """Return the tuple of the possible events, in canonical order."""
        settled = self.settled()
        found = []
        for row in range(len(self.stages)):
            found.extend(self._enabled_of_row(row, settled))
        for trainer, batch in enumerate(self.ahead):
            if self._can_compute(trainer, batch, settled):
                found.append(("compute", trainer, batch))
        return tuple(sorted(found, key=canonical_key))

    def _enabled_of_row(self, row, settled):
        stage, batch = self.stages[row], self.due[row]
        if stage == "home":
            window = self.schedule.setup[1]
            is_near = batch < self.schedule.end and batch < settled + window
            return [("request", row, batch)] if is_near else []
        if stage == "cached":
            return self._enabled_of_users(row, batch)
        if stage in ("writing", "acknowledging"):
            batch = self.applied[row]
        return [(KINDS_OF_STAGES[stage], row, batch)]

    def _enabled_of_users(self, row, batch):
        return [
            (KINDS_OF_PLACES[place], row, batch, user)
            for user, (place, change) in self.parts[row].items()
            if place in KINDS_OF_PLACES
        ]

    def _can_compute(self, trainer, batch, settled):
        lead = self.schedule.setup[2]
        if batch >= self.schedule.end or batch >= settled + lead:
            return False
        needed = self.schedule.rows_of(trainer, batch)
        return all([self._is_there(row, batch, trainer) for row in needed])

    def _is_there(self, row, batch, user):
        """Tell whether the value of a row for a batch has arrived at a user."""
        return self.due[row] == batch and self.parts[row].get(user) == ("there", None)

    def perform(self, event):
        """Let a possible event take place, and return the tuple of the integers that it reports."""
        kind, number, batch = event[:3]
        self.log = self.log + (event,)
        if kind == "compute":
            return self._compute(number, batch)
        if kind == "value":
            self.parts[number][event[3]] = ("there", None)
            return (self.worths[number],)
        if kind == "update":
            return self._add(number, batch, event[3])
        return self._move(kind, number)

    def _move(self, kind, row):
        self.stages[row] = STAGES_AFTER[kind]
        if kind == "reply":
            self._send(row)
        if kind == "write":
            self.stored[row] = self.worths[row]
        if kind in ("request", "ack"):
            return ()
        return (self.worths[row],)

    def _send(self, row):
        """Send the value of a cached row to all its users in its next batch."""
        needed = users(self.schedule.problem, self.schedule.setup, row, self.due[row])
        self.parts[row] = {user: ("sent", None) for user in needed}

    def _compute(self, trainer, batch):
        samples = self.schedule.samples_of(trainer, batch)
        # A value that has arrived is the current one until the updates of all users are back.
        changes = updates(self.schedule.problem, samples, self.worths)
        for row, change in changes.items():
            self.parts[row][trainer] = ("returned", change)
        self.ahead[trainer] = batch + 1
        return tuple([changes[row] for row in sorted(changes)])

    def _add(self, row, batch, user):
        place, change = self.parts[row][user]
        self.parts[row][user] = ("back", change)
        if not all([part[0] == "back" for part in self.parts[row].values()]):
            return (change,)
        self._apply(row, batch)
        return change, self.worths[row]

    def _apply(self, row, batch):
        if self.begun is not None and batch >= self.begun:
            self.kept.setdefault(row, self.worths[row])
        self.worths[row] += sum([change for place, change in self.parts[row].values()])
        self.applied[row] = batch
        self.due[row] = self.schedule.next_use(row, batch + 1)
        window = self.schedule.setup[1]
        if self.due[row] < self.schedule.end and self.due[row] <= batch + window:
            self._send(row)
        else:
            self.stages[row] = "writing"
            self.parts[row] = {}
        self._complete()

    def begin(self, batch):
        """Begin a checkpoint of a batch."""
        if self.begun is not None:
            raise CheckpointUnderWay("another checkpoint is under way")
        if batch <= max(self.applied):
            raise TooLate("the batch lies before the run, or has been applied to some row")
        self.begun = batch
        self._complete()

    def _complete(self):
        """End the checkpoint that is under way, if the settled batch has come to its batch."""
        if self.begun is None or self.settled() < self.begun:
            return
        table = [self.kept.get(row, worth) for row, worth in enumerate(self.worths)]
        self.saved = (self.begun, tuple(table))
        self.begun = None
        self.kept = {}
