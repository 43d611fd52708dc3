"""Worlds: a moment, the things with their states and numbers, and the own parts of the lives."""

from wokenlives.errors import Quiet
from wokenlives.owns import first_own
from wokenlives.things import THINGS, start_state


class World:
    """A world; it is never changed, so that worlds may share their dicts."""

    def __init__(self, program, moment, states, numbers, owns):
        self.program = program
        self.time, self.stage = moment
        self.states = states
        self.numbers = numbers
        self.owns = owns

    def things(self):
        """The list of the names of the things in ascending order."""
        return sorted(self.states)

    def lives(self):
        """The list of the names of the lives in ascending order."""
        return sorted(self.owns)

    def due(self):
        """The list of the names of the lives that are due, in ascending order."""
        return sorted([life for life in self.owns if self.is_due(life)])

    def is_due(self, life):
        """Whether there is such a life and it is due."""
        return life in self.owns and self.states[life] == ("due", self.time, self.stage)

    def kind(self, thing):
        """The kind of a thing."""
        return kind_of(self.program, self.owns, thing)

    def state(self, thing):
        """The state of a thing."""
        return self.states[thing]

    def number(self, thing):
        """The number of a thing."""
        return self.numbers[thing]

    def own_part(self, life):
        """The own part of a life."""
        return self.owns[life]

    def coming(self):
        """The least moment at which a life is due, or None in a quiet world."""
        stands = [self.states[life] for life in self.owns]
        return min([stand[1:] for stand in stands if stand[0] == "due"], default=None)


def kind_of(program, owns, thing):
    """The kind of a thing where these lives have own parts."""
    if ":" in thing:
        return "mark"
    if thing in owns:
        return "stand"
    return program.kinds[thing]


def mark_starts(program, life):
    """A dict from the names of the marks of a life to their start values."""
    return {f"{life}:{item[1]}": start_state(item) for item in program.tree if item[0] == "mark"}


def start_world(program):
    """The start world of a program."""
    states = {}
    owns = {}
    for item in program.tree:
        if item[0] in THINGS:
            states[item[1]] = start_state(item)
        if item[0] == "start":
            _, life, name, numbers, _ = item
            states[life] = start_state(item)
            states.update(mark_starts(program, life))
            owns[life] = first_own(program.flats[name], numbers)
    return World(program, (0, 0), states, {thing: 0 for thing in states}, owns)


def advance(world):
    """The world at its coming moment."""
    moment = world.coming()
    if moment is None:
        raise Quiet()
    if moment == (world.time, world.stage):
        return world
    return World(world.program, moment, world.states, world.numbers, world.owns)
