"""Exchanges of neighbours, which lead from one whole course to another one."""

from wokenlives.counts import course_lines


def places_in_second(forest, first, second):
    """For each line of a first whole course its place in a second one."""
    lines = course_lines(forest, first)
    places = {line: place for place, line in enumerate(course_lines(forest, second))}
    return [places[line] for line in lines]


def distance(forest, first, second):
    """The number of pairs of lines that stand otherwise in two whole courses."""
    places = places_in_second(forest, first, second)
    total = 0
    for at, place in enumerate(places):
        total += len([other for other in places[at + 1:] if other < place])
    return total


def exchange_way(forest, first, second):
    """The list of the indexes at which neighbours are exchanged, from a first whole course to a second one."""
    places = places_in_second(forest, first, second)
    way = []
    at = 0
    while at + 1 < len(places):
        if places[at] > places[at + 1]:
            places[at], places[at + 1] = places[at + 1], places[at]
            way.append(at)
            # Only the pair before can stand otherwise now that did not before.
            at = max(at - 1, 0)
        else:
            at += 1
    return way
