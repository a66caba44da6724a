"""Papers on logs: that exchanges alone lead from one to another, and what is wrong with one."""

from rowsahead.events import Course
from rowsahead.logs import audit
from rowsahead.problems import is_integer, is_tuple


def judge_exchanges(problem, setup, first, log, other, places):
    """Tell whether places, whatever they are, lead from a log to the other one by exchanges."""
    if type(places) is not tuple:
        return False
    course = Course(problem, setup, first)
    links = _links(course)
    reached = list(log)
    for place in places:
        if not is_integer(place, 0, len(reached) - 2):
            return False
        one, following = reached[place], reached[place + 1]
        if not (course.has(one) and course.has(following) and _are_free(links, one, following)):
            return False
        reached[place], reached[place + 1] = following, one
    return _are_same_logs(course, reached, other)


def _links(course):
    """Return a dict of True with all pairs (direct cause, event) of a run."""
    return {(cause, event): True for event in course.listed for cause in course.causes_of(event)}


def _are_free(links, one, following):
    return one != following and (one, following) not in links and (following, one) not in links


def _are_same_logs(course, log, other):
    if len(log) != len(other):
        return False
    return all([_are_same(course, one, another) for one, another in zip(log, other)])


def _are_same(course, one, another):
    # Python takes True for 1, so that what is no event may be equal to one.
    return course.has(one) == course.has(another) and one == another


def exchanges(problem, setup, first, log, other):
    """Return the tuple of as few places as can be, or None if no exchanges lead to the other."""
    wanted = {event: place for place, event in enumerate(other)}
    if len(log) != len(other) or not all([event in wanted for event in log]):
        return None
    links = _links(Course(problem, setup, first))
    reached, places = list(log), []
    for end in range(len(reached)):
        place = end
        # Each pair that stands the other way round in the other log changes places just once.
        while place > 0 and wanted[reached[place - 1]] > wanted[reached[place]]:
            place -= 1
            one, following = reached[place], reached[place + 1]
            if not _are_free(links, one, following):
                return None
            reached[place], reached[place + 1] = following, one
            places.append(place)
    return tuple(places)


def judge_fault(problem, setup, first, log, paper):
    """Tell whether a paper, whatever it is, shows a fault of a log."""
    if not is_tuple(paper, 2, 3) or type(paper[0]) is not str:
        return False
    kind, index, *shown = paper
    if not is_integer(index, 0, len(log) - 1):
        return False
    course = Course(problem, setup, first)
    if kind == "strange" and not shown:
        return not course.has(log[index])
    if kind == "again" and shown:
        earlier = shown[0]
        return is_integer(earlier, 0, index - 1) and _are_same(course, log[earlier], log[index])
    if kind == "early" and shown:
        return _is_early(course, log, index, shown[0])
    return False


def _is_early(course, log, index, cause):
    event = log[index]
    if not (course.has(event) and course.has(cause)):
        return False
    before = [earlier for earlier in log[:index] if course.has(earlier)]
    return cause in course.causes_of(event) and cause not in before


def explain_fault(problem, setup, first, log):
    """Return a paper for the end of the longest orderly beginning, or None for an orderly log."""
    index = audit(problem, setup, first, log)
    if index == len(log):
        return None
    course = Course(problem, setup, first)
    event, before = log[index], log[:index]
    if not course.has(event):
        return ("strange", index)
    if event in before:
        return ("again", index, before.index(event))
    missing = [cause for cause in course.causes_of(event) if cause not in before]
    return ("early", index, missing[0])
