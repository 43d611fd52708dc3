"""The whole courses of a forest without crossings: how many there are, and which one stands at which place."""

from wokenlives.crossings import crossings
from wokenlives.errors import Crossed, NoCourse, NoPlace
from wokenlives.forests import last_name


class Walk:
    """A way through the lines of a forest without crossings, each line behind its proper beginnings."""

    def __init__(self, forest):
        self.weights = weights_of(forest)
        self.longer = {}
        for line in self.weights:
            self.longer.setdefault(line[:-1], []).append(line)
        self.ahead = self.longer.get((), [])
        self.left = len(self.weights)
        # How many ways there are from here on.
        self.total = courses_by_weights(list(self.weights.values()))

    def choices(self):
        """The list of (line, number of ways that go on with it) in ascending order of the last names."""
        return [(line, self.ways_with(line)) for line in sorted(self.ahead, key=last_name)]

    def ways_with(self, line):
        """How many ways go on with a line."""
        return self.total * self.weights[line] // self.left

    def step_to(self, line):
        """Go on with a line that may come next."""
        self.total = self.ways_with(line)
        self.left -= 1
        self.ahead = [other for other in self.ahead if other != line] + self.longer.get(line, [])


def check_uncrossed(forest):
    """Refuse a forest with crossings."""
    found = crossings(forest)
    if found != []:
        first, second, _, _ = found[0]
        raise Crossed(first, second)


def weights_of(forest):
    """A dict from each line to the number of lines that begin with it, in the order of lines."""
    weights = {line: 1 for line in forest}
    for line in reversed(list(forest)):
        if len(line) > 1:
            weights[line[:-1]] = weights[line[:-1]] + weights[line]
    return weights


def courses_by_weights(weights):
    """The number of whole courses of a forest whose lines have these weights, in the order of lines."""
    total = 1
    # The lines behind each place are a forest, too, so that no quotient leaves a rest.
    for many, weight in enumerate(reversed(weights), start=1):
        total = total * many // weight
    return total


def count_courses(forest):
    """The number of whole courses."""
    check_uncrossed(forest)
    return Walk(forest).total


def course_at(forest, place):
    """The whole course at a place, a list of names."""
    check_uncrossed(forest)
    walk = Walk(forest)
    if place < 0 or place >= walk.total:
        raise NoPlace(place)
    course = []
    while walk.left > 0:
        choices = walk.choices()
        at = 0
        while place >= choices[at][1]:
            place -= choices[at][1]
            at += 1
        walk.step_to(choices[at][0])
        course.append(choices[at][0][-1])
    return course


def course_lines(forest, names):
    """The list of the lines that the names of a whole course stand for."""
    check_uncrossed(forest)
    walk = Walk(forest)
    found = []
    for place, name in enumerate(names):
        fitting = [line for line in walk.ahead if line[-1] == name]
        if fitting == []:
            raise NoCourse(place)
        walk.step_to(fitting[0])
        found.append(fitting[0])
    if walk.left > 0:
        raise NoCourse(len(found))
    return found


def place_of(forest, names):
    """The place of a whole course."""
    lines = course_lines(forest, names)
    walk = Walk(forest)
    place = 0
    for line in lines:
        place += sum([many for other, many in walk.choices() if other[-1] < line[-1]])
        walk.step_to(line)
    return place


def leaves(forest):
    """The list of the lines that no longer line begins with."""
    check_uncrossed(forest)
    weights = weights_of(forest)
    return [line for line in forest if weights[line] == 1]


def rounds(forest):
    """The list of the rounds; round k consists of the lines of k names."""
    check_uncrossed(forest)
    found = []
    for line in forest:
        # Each beginning of a line is a line, so no round is left out.
        if len(line) > len(found):
            found.append([])
        found[-1].append(line)
    return found
