"""Runs and courses of worlds, and the books and told rows of their happenings."""

from wokenlives.books import ordered_rows
from wokenlives.errors import NoCourse, NotDue
from wokenlives.happenings import happen
from wokenlives.values import value_text
from wokenlives.worlds import advance


class Run:
    """A run: its first and its last world, its happenings in order and why it ended."""

    def __init__(self, start, end, happenings, reason):
        self.start = start
        self.end = end
        self.happenings = happenings
        self.reason = reason

    def __iter__(self):
        return iter(self.happenings)


def run(world, *, until=None, most=200, by="reader"):
    """The run of a world."""
    start = world
    happenings = []
    reason = end_reason(world, until, most)
    while reason is None:
        world = advance(world)
        world, happening = happen(world, world.due()[0], by=by)
        happenings.append(happening)
        reason = end_reason(world, until, most - len(happenings))
    return Run(start, world, happenings, reason)


def end_reason(world, until, left):
    """Why a run ends that may have so many happenings more, or None if it goes on."""
    moment = world.coming()
    if moment is None:
        return "quiet"
    if until is not None and moment[0] > until:
        return "until"
    if left <= 0:
        return "most"
    return None


def follow(world, names, *, advancing=False, by="reader"):
    """(world behind, list of happenings) of a course or of an advancing course."""
    happenings = []
    for place, name in enumerate(names):
        if advancing and world.coming() is not None:
            world = advance(world)
        try:
            world, happening = happen(world, name, by=by)
        except NotDue:
            raise NoCourse(place) from None
        happenings.append(happening)
    return world, happenings


def books(happenings):
    """A dict from each touched thing, in ascending order, to the list of the rows of its book."""
    found = {}
    for happening in happenings:
        life, time, stage = happening.life, happening.time, happening.stage
        for thing, number, mode, deed, arguments, answer in happening.touches:
            rows = found.setdefault(thing, [])
            rows.append((number, mode, life, time, stage, deed, arguments, answer))
    return {thing: ordered_rows(found[thing]) for thing in sorted(found)}


def told_rows(happenings):
    """The list of the told rows, ordered by the lives."""
    found = []
    for happening in happenings:
        for _, _, _, deed, arguments, _ in happening.touches:
            if deed == "tell":
                found.append((happening.life, happening.time, happening.stage, arguments[0], arguments[1:]))
    return sorted(found, key=teller)


def teller(row):
    """The life that told a row."""
    return row[0]


def told_texts(happenings):
    """The list of the texts of the told rows."""
    return [told_text(row) for row in told_rows(happenings)]


def told_text(row):
    """The text of a told row."""
    life, time, stage, word, values = row
    return " ".join([life, str(time), str(stage), word] + [value_text(value) for value in values])
