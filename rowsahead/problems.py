"""Which values are problems, and which are setups."""

from rowsahead.errors import BadProblem, BadSetup

FARTHEST = 1000000
MOST_ROWS = 20
MOST_BATCHES = 20
MOST_SAMPLES = 6
MOST_LOOKUPS = 4
MOST_DIVISOR = 1000
MOST_CLIP = 1000
MOST_TRAINERS = 4
MOST_WINDOW = 20
MOST_LEAD = 20


def is_integer(value, least, most):
    """Tell whether a value is an integer from least to most."""
    # isinstance would take True and False, and would ask objects that may answer with an error.
    return type(value) is int and least <= value <= most


def is_tuple(value, fewest, most):
    """Tell whether a value is a tuple of fewest to most items, whatever they are."""
    return type(value) is tuple and fewest <= len(value) <= most


def check_problem(value):
    """Return None for a problem, raise BadProblem for everything else."""
    if not is_tuple(value, 4, 4):
        raise BadProblem("a problem is a tuple (rows, batches, divisor, clip)")
    rows, batches, divisor, clip = value
    _check_rows(rows)
    _check_batches(batches, len(rows))
    if not is_integer(divisor, 1, MOST_DIVISOR):
        raise BadProblem("the divisor is an integer from 1 to 1000")
    if not is_integer(clip, 1, MOST_CLIP):
        raise BadProblem("the clip is an integer from 1 to 1000")


def _check_rows(rows):
    if not is_tuple(rows, 1, MOST_ROWS):
        raise BadProblem("the rows are a tuple of 1 to 20 values")
    for worth in rows:
        if not is_integer(worth, -FARTHEST, FARTHEST):
            raise BadProblem("the value of a row is an integer from -1000000 to 1000000")


def _check_batches(batches, row_count):
    if not is_tuple(batches, 1, MOST_BATCHES):
        raise BadProblem("the batches are a tuple of 1 to 20 batches")
    for batch in batches:
        if not is_tuple(batch, 0, MOST_SAMPLES):
            raise BadProblem("a batch is a tuple of 0 to 6 samples")
        for sample in batch:
            _check_sample(sample, row_count)


def _check_sample(sample, row_count):
    if not is_tuple(sample, 2, 2):
        raise BadProblem("a sample is a pair (rows, target)")
    looked_up, target = sample
    if not is_tuple(looked_up, 1, MOST_LOOKUPS):
        raise BadProblem("a sample looks up a tuple of 1 to 4 rows")
    for row in looked_up:
        if not is_integer(row, 0, row_count - 1):
            raise BadProblem("a sample looks up rows by their indices")
    if len(set(looked_up)) < len(looked_up):
        raise BadProblem("a sample looks up different rows")
    if not is_integer(target, -FARTHEST, FARTHEST):
        raise BadProblem("the target of a sample is an integer from -1000000 to 1000000")


def check_setup(value):
    """Return None for a setup, raise BadSetup for everything else."""
    if not is_tuple(value, 3, 3):
        raise BadSetup("a setup is a tuple (trainers, window, lead)")
    trainers, window, lead = value
    if not is_integer(trainers, 1, MOST_TRAINERS):
        raise BadSetup("the trainers are an integer from 1 to 4")
    if not is_integer(window, 1, MOST_WINDOW):
        raise BadSetup("the window is an integer from 1 to 20")
    if not is_integer(lead, 1, MOST_LEAD):
        raise BadSetup("the lead is an integer from 1 to 20")
