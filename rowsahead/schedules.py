"""Which batches and trainers of a run need which rows."""

from rowsahead.stays import uses


class Schedule:
    """What is known of a run before its first event; it does not change."""

    def __init__(self, problem, setup, first):
        self.problem = problem
        self.setup = setup
        self.first = first
        self.end = len(problem[1])
        self.batches_of_rows = tuple([uses(problem, first, row) for row in range(len(problem[0]))])

    def next_use(self, row, batch):
        """Return the first batch from a batch on that uses a row, or the number of batches."""
        later = [used for used in self.batches_of_rows[row] if used >= batch]
        return min(later, default=self.end)

    def samples_of(self, trainer, batch):
        """Return the samples of a batch that a trainer computes."""
        trainers = self.setup[0]
        return self.problem[1][batch][trainer::trainers]

    def rows_of(self, trainer, batch):
        """Return the ascending list of the rows that a trainer uses in a batch."""
        samples = self.samples_of(trainer, batch)
        return sorted({row for looked_up, target in samples for row in looked_up})
