"""Which trainers use a row in a batch, which batches use it, and how long it stays in the cache."""


def users(problem, setup, row, batch):
    """Return the ascending tuple of the trainers that use a row in a batch."""
    trainers = setup[0]
    samples = problem[1][batch]
    found = [index % trainers for index, sample in enumerate(samples) if row in sample[0]]
    return tuple(sorted(set(found)))


def uses(problem, first, row):
    """Return the ascending tuple of the batches from the first one on that use a row."""
    batches = problem[1]
    return tuple([t for t in range(first, len(batches)) if _is_used(row, batches[t])])


def _is_used(row, samples):
    return any([row in looked_up for looked_up, target in samples])


def stays(problem, setup, first):
    """Return the ascending tuple of the stays (row, batch that opens it, batch that closes it)."""
    window = setup[1]
    found = []
    for row in range(len(problem[0])):
        found.extend(_stays_of_row(row, uses(problem, first, row), window))
    return tuple(found)


def _stays_of_row(row, batches, window):
    found = []
    for batch in batches:
        opened = batch
        if found and batch <= found[-1][2] + window:
            # The row is still in the cache, and its last stay goes on.
            opened = found.pop()[1]
        found.append((row, opened, batch))
    return found
