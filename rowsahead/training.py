"""Sequential training: what samples do to a table, one batch behind the other."""


def correction(problem, table, sample):
    """Return the correction of a sample on a table."""
    divisor, clip = problem[2], problem[3]
    looked_up, target = sample
    error = target - sum([table[row] for row in looked_up])
    return max(-clip, min(clip, error // divisor))


def updates(problem, samples, table):
    """Return a dict from each row that some of the samples look up to its update on the table."""
    sums = {}
    for sample in samples:
        change = correction(problem, table, sample)
        for row in sample[0]:
            sums[row] = sums.get(row, 0) + change
    return sums


def train(problem, count):
    """Return the table of sequential training behind the first count batches."""
    table, batches = problem[0], problem[1]
    for batch in batches[:count]:
        table = _table_after(problem, batch, table)
    return table


def _table_after(problem, batch, table):
    changes = updates(problem, batch, table)
    return tuple([worth + changes.get(row, 0) for row, worth in enumerate(table)])
