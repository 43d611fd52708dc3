"""Forests: the lines of lives of which each one has made the next one due."""

from wokenlives.errors import TooLong
from wokenlives.happenings import happen


class Forest:
    """The lines of a world as far as they are known, in their order."""

    def __init__(self, world):
        self.world = world
        self.lines = []
        self.told = {}
        self.behind = {}
        # The lines of the generation that has not run yet.
        self.ahead = [(life,) for life in world.due()]

    def __iter__(self):
        return iter(self.lines)

    def __len__(self):
        return len(self.lines)

    def __contains__(self, line):
        return line in self.told

    def touches_of(self, line):
        """The touches of a line."""
        return self.told[line]

    def world_behind(self, line):
        """The world behind the last happening of a line."""
        return self.behind[line]

    def grow(self, most):
        """Count and run the next generation."""
        if len(self.lines) + len(self.ahead) > most:
            raise TooLong(most)
        generation = list(self.ahead)
        self.ahead = []
        for line in generation:
            self.run_line(line)

    def run_line(self, line):
        """Run a line whose proper beginnings have run, and find the lines that are one longer."""
        world = self.world
        if len(line) > 1:
            world = self.behind[line[:-1]]
        behind, happening = happen(world, line[-1])
        self.lines.append(line)
        self.told[line] = happening.touches
        self.behind[line] = behind
        for life in woken_by(happening, behind):
            self.ahead.append(line + (life,))


def woken_by(happening, behind):
    """The lives that a happening has made due in the world behind it, in ascending order."""
    changed = {}
    for thing, _, mode, _, _, _ in happening.touches:
        if mode == "change":
            changed[thing] = True
    return [life for life in behind.due() if life in changed]


def last_name(line):
    """The last name of a line, for which it stands in a course."""
    return line[-1]


def lone_forest(world, *, most=120):
    """The whole forest of a world."""
    forest = Forest(world)
    while forest.ahead != []:
        forest.grow(most)
    return forest
