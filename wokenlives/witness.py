"""Witnesses: what shows that all orders of a world are alike, that two are not, and that an order has no end."""

from wokenlives.counts import check_uncrossed
from wokenlives.crossings import crossings, meeting_things
from wokenlives.errors import NoCourse, TooLong
from wokenlives.forests import lone_forest
from wokenlives.happenings import happen
from wokenlives.runs import follow
from wokenlives.worlds import World
from wokenlives.worldtext import write_world


def alike_witness(forest):
    """The tuple of (line, touches) for all lines of a forest without crossings."""
    check_uncrossed(forest)
    return lines_and_touches(forest)


def lines_and_touches(forest):
    """The tuple of (line, touches) for all lines of a forest."""
    return tuple([(line, forest.touches_of(line)) for line in forest])


def accepts_alike(world, witness):
    """Whether the forest of a world is finite and without crossings, and this is its witness."""
    try:
        # A forest of more lines has another witness, also one without end.
        forest = lone_forest(world, most=len(witness))
    except TooLong:
        return False
    return lines_and_touches(forest) == witness and crossings(forest) == []


def accepts_parting(world, parting):
    """Whether (course, first, second, thing) is a parting of a world that meets at this thing."""
    course, first, second, thing = parting
    try:
        behind, _ = follow(world, course)
    except NoCourse:
        return False
    if first == second or not behind.is_due(first) or not behind.is_due(second):
        return False
    _, one = happen(behind, first)
    _, other = happen(behind, second)
    return thing in meeting_things(one.touches, other.touches)


def no_end(world, *, most=60):
    """(i, j) if the course of least names comes back at j to the states and own parts at i, or None if it ends."""
    places = {}
    place = 0
    text = text_without_numbers(world)
    while text not in places:
        if world.due() == []:
            return None
        if place == most:
            raise TooLong(most)
        places[text] = place
        world, _ = happen(world, world.due()[0])
        text = text_without_numbers(world)
        place += 1
    return places[text], place


def text_without_numbers(world):
    """The text of a world whose things have not changed yet."""
    zeros = {thing: 0 for thing in world.states}
    return write_world(World(world.program, (world.time, world.stage), world.states, zeros, world.owns))
