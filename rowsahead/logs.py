"""How much of a log is orderly."""

from rowsahead.events import Course


def audit(problem, setup, first, log):
    """Return the length of the longest beginning of a log that is orderly."""
    course = Course(problem, setup, first)
    seen = {}
    for event in log:
        if not course.has(event) or event in seen:
            break
        if not all([cause in seen for cause in course.causes_of(event)]):
            break
        seen[event] = True
    return len(seen)


def is_orderly(problem, setup, first, log):
    """Tell whether a whole log is orderly."""
    return audit(problem, setup, first, log) == len(log)
