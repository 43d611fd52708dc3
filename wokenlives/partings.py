"""Partings: courses behind which the order of two lives decides what the books are."""

from wokenlives.crossings import Meetings, nearest_crossing
from wokenlives.errors import NoCourse, TooLong
from wokenlives.forests import last_name
from wokenlives.happenings import happen
from wokenlives.runs import end_reason, follow
from wokenlives.worlds import advance


def nearest_parting(world, *, most=120):
    """(course, first, second, thing) of the nearest parting of a world, or None."""
    crossing = nearest_crossing(world, most=most)
    if crossing is None:
        return None
    first, second, thing, _ = crossing
    return tuple(course_of_lines(shared_lines(first, second))), first[-1], second[-1], thing


def shared_lines(first, second):
    """The list of the proper beginnings of two lines, each one once."""
    found = {}
    for line in (first, second):
        for length in range(1, len(line)):
            found[line[:length]] = True
    return list(found)


def course_of_lines(lines):
    """The last names of lines, at each step the least one of those whose proper beginnings have been taken."""
    left = list(lines)
    course = []
    while left != []:
        line = min([other for other in left if other[:-1] not in left], key=last_name)
        left.remove(line)
        course.append(line[-1])
    return course


def run_parting(world, *, until=None, most=200, lines=120):
    """(course, first, second, thing) of the nearest parting of a run, with an advancing course, or None."""
    names = ()
    reason = end_reason(world, until, most)
    while reason is None:
        ahead = advance(world)
        if names == () or (ahead.time, ahead.stage) != (world.time, world.stage):
            parting = nearest_parting(ahead, most=lines)
            if parting is not None:
                return (names + parting[0],) + parting[1:]
        world, happening = happen(ahead, ahead.due()[0])
        names += (happening.life,)
        reason = end_reason(world, until, most - len(names))
    if reason == "most":
        raise TooLong(most)
    return None


def course_decides(world, names):
    """Whether the whole course of these names shows that no two lines cross."""
    behind, happenings = follow(world, names)
    if behind.due() != []:
        raise NoCourse(len(happenings))
    return not stops_due_life(happenings) and meets_in_lines_alone(happenings)


def stops_due_life(happenings):
    """Whether a happening stops a life that was due before it, at its moment."""
    for happening in happenings:
        found = {thing: state for thing, state, _ in happening.founds}
        for thing, _, _, deed, _, answer in happening.touches:
            if deed == "stop" and answer == 1 and found[thing] == ("due", happening.time, happening.stage):
                return True
    return False


def meets_in_lines_alone(happenings):
    """Whether only such happenings of a course have touches that meet as are in one line."""
    meetings = Meetings()
    changed = {}
    # For each happening the places of those that it is reached from, and its own place.
    ways = []
    for place, happening in enumerate(happenings):
        waker = changed.get(happening.life)
        way = (place,) if waker is None else ways[waker] + (place,)
        for other in meetings.add_touches(happening.touches):
            depth = len(ways[other])
            if way[depth - 1:depth] != (other,):
                return False
        ways.append(way)
        for thing, _, mode, _, _, _ in happening.touches:
            if mode == "change":
                changed[thing] = place
    return True
