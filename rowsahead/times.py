"""When the events of a run take place at the earliest, and papers that show it."""

from rowsahead.errors import BadDelays, NoSuchEvent
from rowsahead.events import KINDS, Course
from rowsahead.problems import is_integer, is_tuple

LONGEST_DELAY = 1000


def check_delays(value):
    """Return None for delays, raise BadDelays for everything else."""
    if not is_tuple(value, len(KINDS), len(KINDS)):
        raise BadDelays("delays are a tuple of eight integers")
    for delay in value:
        if not is_integer(delay, 0, LONGEST_DELAY):
            raise BadDelays("a delay is an integer from 0 to 1000")


def timetable(problem, setup, first, delays):
    """Return the tuple of the pairs (event, time), in ascending order of times."""
    check_delays(delays)
    times = _times(Course(problem, setup, first), delays)
    # As sorted is stable, events with the same time remain in canonical order.
    return tuple(sorted(times.items(), key=lambda pair: pair[1]))


def _times(course, delays):
    """Return a dict from the events of a run, in canonical order, to their times."""
    times = {}
    for event in course.listed:
        before = [times[cause] for cause in course.causes_of(event)]
        times[event] = _delay(delays, event) + max(before, default=0)
    return times


def _delay(delays, event):
    return delays[KINDS.index(event[0])]


def judge_time(problem, setup, first, delays, event, time, paper):
    """Tell whether a paper, whatever it is, shows how a time compares with that of an event."""
    course = _checked_course(problem, setup, first, delays, event)
    if not is_tuple(paper, 2, 3) or type(paper[0]) is not str:
        return False
    kind, *shown = paper
    if kind == "more" and len(shown) == 1:
        length = _length(course, delays, event, shown[0])
        return length is not None and length > time
    if kind == "less" and len(shown) == 1:
        given = _given(course, delays, event, shown[0])
        return given is not None and given < time
    if kind == "least" and len(shown) == 2:
        length = _length(course, delays, event, shown[0])
        return length == time and _given(course, delays, event, shown[1]) == time
    return False


def _checked_course(problem, setup, first, delays, event):
    check_delays(delays)
    course = Course(problem, setup, first)
    if not course.has(event):
        raise NoSuchEvent("this is no event of the run")
    return course


def _length(course, delays, event, way):
    """Return the length of a way to an event, or None for what is no such way."""
    if not is_tuple(way, 1, len(course.listed)):
        return None
    if not all([course.has(step) for step in way]) or way[-1] != event:
        return None
    for cause, step in zip(way, way[1:]):
        if cause not in course.causes_of(step):
            return None
    return sum([_delay(delays, step) for step in way])


def _given(course, delays, event, rows):
    """Return the time that rows give to an event, or None for what does not keep the delays."""
    count = len(course.listed)
    if not is_tuple(rows, count, count) or not all([type(given) is int for given in rows]):
        return None
    for place, later in enumerate(course.listed):
        before = [rows[course.places[cause]] for cause in course.causes_of(later)]
        if rows[place] < _delay(delays, later) + max(before, default=0):
            return None
    return rows[course.places[event]]


def explain_time(problem, setup, first, delays, event, time):
    """Return a paper that shows how a time compares with that of an event."""
    course = _checked_course(problem, setup, first, delays, event)
    times = _times(course, delays)
    way = _longest_way(course, times, event)
    rows = tuple(times.values())
    if time < times[event]:
        return ("more", way)
    if time > times[event]:
        return ("less", rows)
    return ("least", way, rows)


def _longest_way(course, times, event):
    """Return a way to an event, the length of which is its time."""
    way = [event]
    causes = course.causes_of(event)
    while causes:
        way.append(max(causes, key=lambda cause: times[cause]))
        causes = course.causes_of(way[-1])
    return tuple(way[::-1])
