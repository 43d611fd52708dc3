"""Crossings: lines of a forest of which neither begins with the other and whose touches meet."""

from wokenlives.forests import Forest


def touched_things(touches):
    """A dict from each touched thing to whether one of the touches is a change."""
    found = {}
    for thing, _, mode, _, _, _ in touches:
        found[thing] = found.get(thing, False) or mode == "change"
    return found


def meeting_things(first, second):
    """The list of the things at which two tuples of touches meet, in ascending order."""
    changed = touched_things(first)
    other = touched_things(second)
    return sorted([thing for thing in changed if thing in other and (changed[thing] or other[thing])])


def meeting(first, second):
    """The least name of a thing at which two tuples of touches meet, or None."""
    return min(meeting_things(first, second), default=None)


class Meetings:
    """Tuples of touches, one behind the other, by the things that they change or only look at."""

    def __init__(self):
        self.many = 0
        self.changers = {}
        self.lookers = {}

    def add_touches(self, touches):
        """Add a tuple of touches.

        The answer is a dict from the place of each tuple before that meets it to the least thing where it does.
        """
        found = {}
        touched = touched_things(touches)
        for thing in sorted(touched):
            before = self.changers.setdefault(thing, [])
            lookers = self.lookers.setdefault(thing, [])
            places = before + lookers if touched[thing] else list(before)
            for place in places:
                found.setdefault(place, thing)
            if touched[thing]:
                before.append(self.many)
            else:
                lookers.append(self.many)
        self.many += 1
        return found


class CrossedLines:
    """The lines of a forest that grows, and the crossings that are known."""

    def __init__(self, forest):
        self.forest = forest
        self.lines = []
        self.meetings = Meetings()
        self.found = []

    def add_lines(self):
        """Add the lines by which the forest has grown."""
        fresh = list(self.forest)[len(self.lines):]
        for line in fresh:
            met = self.meetings.add_touches(self.forest.touches_of(line))
            for place in sorted(met):
                other = self.lines[place]
                # The lines before are not longer, so only this one can begin with the other one.
                if line[:len(other)] != other:
                    self.found.append((other, line, met[place], count_shared(other, line)))
            self.lines.append(line)


def count_shared(first, second):
    """How many lines are proper beginnings of one of two lines or of both, if neither begins with the other."""
    common = 0
    while first[common] == second[common]:
        common += 1
    return len(first) - 1 + len(second) - 1 - common


def in_line_order(crossing):
    """What crossings are ordered by: the first line and then the second one, both in the order of lines."""
    first, second = crossing[:2]
    return (len(first), first, len(second), second)


def by_nearness(crossing):
    """What the nearest crossing is the least by."""
    return (crossing[3], in_line_order(crossing))


def crossings(forest):
    """The list of all crossings of a forest in ascending order."""
    crossed = CrossedLines(forest)
    crossed.add_lines()
    return sorted(crossed.found, key=in_line_order)


def nearest_crossing(world, *, most=120):
    """The crossing of a world with the least number of shared lines, or None."""
    forest = Forest(world)
    crossed = CrossedLines(forest)
    generation = 0
    nearest = None
    while forest.ahead != []:
        forest.grow(most)
        crossed.add_lines()
        generation += 1
        nearest = min(crossed.found, key=by_nearness, default=None)
        # Lines of more names share as many lines as there are generations, or more.
        if nearest is not None and nearest[3] < generation:
            return nearest
    return nearest
