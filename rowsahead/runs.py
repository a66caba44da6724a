"""Runs: which events are possible, what they do, checkpoints, restarts and trials."""

from rowsahead.errors import NotPossible
from rowsahead.events import is_like_an_event
from rowsahead.problems import check_problem, check_setup
from rowsahead.schedules import Schedule
from rowsahead.states import State
from rowsahead.training import train


class Trial:
    """Takes a run back to what it was when the trial was made, when its with statement ends."""

    def __init__(self, run):
        self.run = run
        self.first = run.first
        self.state = run.state

    def __enter__(self):
        return self.run

    def __exit__(self, kind, value, trace):
        run = self.run
        run.first = self.first
        run.state = self.state


class Run:
    """A training from its first batch on, event by event."""

    def __init__(self, problem, setup, first):
        check_problem(problem)
        check_setup(setup)
        self.first = first
        self.state = State(Schedule(problem, setup, first), train(problem, first))

    def __len__(self):
        return len(self.state.log)

    def __iter__(self):
        return iter(self.state.log)

    def __eq__(self, other):
        return type(other) is Run and self.told() == other.told()

    def told(self):
        """Return all that another run must have, too, to be equal to this one."""
        state = self.state
        checkpoints = (state.saved, state.begun, state.kept)
        problem, setup = state.schedule.problem, state.schedule.setup
        return problem, setup, self.first, checkpoints, sorted(state.log)

    def settled(self):
        """Return the settled batch."""
        return self.state.settled()

    def finished(self):
        """Tell whether the run is finished."""
        return self.state.finished()

    def enabled(self):
        """Return the tuple of the possible events, in canonical order."""
        return self.state.enabled()

    def rows(self):
        """Return for all rows (stage, next batch, current value, value on the server)."""
        state = self.state
        return tuple(zip(state.stages, state.due, state.worths, state.stored))

    def positions(self):
        """Return the tuple of the next batches of all trainers."""
        return tuple(self.state.ahead)

    def step(self, event):
        """Let an event take place, and return the tuple of the integers that it reports."""
        if not is_like_an_event(event) or event not in self.enabled():
            raise NotPossible("this event is not possible now")
        state = self.state.copied()
        told = state.perform(event)
        self.state = state
        return told

    def play(self):
        """Let the first possible event take place until the run is finished; return all of them."""
        played = []
        possible = self.enabled()
        while possible:
            self.step(possible[0])
            played.append(possible[0])
            possible = self.enabled()
        return tuple(played)

    def save(self, batch):
        """Begin a checkpoint of a batch, and tell whether it is complete at once."""
        state = self.state.copied()
        state.begin(batch)
        self.state = state
        return state.begun is None

    def checkpoint(self):
        """Return (batch, table): the last complete checkpoint."""
        return self.state.saved

    def restart(self, setup):
        """Begin anew with the last complete checkpoint; return the batch with which it begins."""
        check_setup(setup)
        first, table = self.state.saved
        self.first = first
        self.state = State(Schedule(self.state.schedule.problem, setup, first), table)
        return first

    def tried(self):
        """Return a trial of the run, for a with statement."""
        return Trial(self)

    def foresee(self, event):
        """Return what an event would report, or raise its error; nothing changes."""
        with self.tried():
            return self.step(event)
