"""Journeys: worlds that go on and back."""

from wokenlives.errors import NoPlace, Quiet
from wokenlives.happenings import happen
from wokenlives.runs import follow, run
from wokenlives.worlds import World, advance, mark_starts
from wokenlives.worldtext import write_world


def take_back(world, happening):
    """The world before the last happening that led to a world."""
    states = dict(world.states)
    numbers = dict(world.numbers)
    owns = dict(world.owns)
    owns[happening.life] = happening.before
    for thing, state, number in happening.founds:
        states[thing] = state
        numbers[thing] = number
    for life in made_lives(world, happening):
        del owns[life]
        for thing in [life] + list(mark_starts(world.program, life)):
            del states[thing]
            del numbers[thing]
    return World(world.program, (happening.time, happening.stage), states, numbers, owns)


def made_lives(world, happening):
    """The list of the lives that a happening made, which led to a world."""
    return [thing for thing, state, _ in happening.founds if state is None and world.kind(thing) == "stand"]


def advanced(world):
    """The advanced world, or the world itself if it is quiet."""
    try:
        return advance(world)
    except Quiet:
        return world


class Journey:
    """A world, which is advanced unless it is quiet, and the happenings that led to it since the journey began."""

    def __init__(self, world):
        self.world = advanced(world)
        self.happenings = []

    def go(self, life):
        """Have the happening of a life; the happening."""
        world, happening = happen(self.world, life)
        self.move(world, [happening])
        return happening

    def go_all(self, names):
        """Have the happenings of all these lives, or none of them."""
        world, happenings = follow(self.world, names, advancing=True)
        self.move(world, happenings)

    def go_on(self, *, until=None, most=200):
        """Have the happenings of a run; the reason why it ends."""
        found = run(self.world, until=until, most=most)
        self.move(found.end, found.happenings)
        return found.reason

    def move(self, world, happenings):
        """Go to a world that these happenings lead to."""
        self.world = advanced(world)
        self.happenings = self.happenings + happenings

    def back(self, count):
        """Take back so many of the last happenings."""
        if count < 0 or count > len(self.happenings):
            raise NoPlace(count)
        kept = len(self.happenings) - count
        for happening in reversed(self.happenings[kept:]):
            self.world = take_back(self.world, happening)
        self.happenings = self.happenings[:kept]

    def names(self):
        """The list of the lives of the happenings."""
        return [happening.life for happening in self.happenings]

    def text(self):
        """The text of the world."""
        return write_world(self.world)
