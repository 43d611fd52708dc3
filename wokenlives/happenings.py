"""Happenings of lives in a world."""

from wokenlives.errors import NotDue
from wokenlives.machine import Machine
from wokenlives.owns import first_own
from wokenlives.reader import Reader
from wokenlives.things import touch
from wokenlives.worlds import World, kind_of, mark_starts


class Happening:
    """What a happening did."""

    def __init__(self, life, moment, touches, outcome, before, founds):
        self.life = life
        self.time, self.stage = moment
        self.touches = touches
        self.outcome = outcome
        self.before = before
        self.founds = founds


class Scene:
    """The things of a world while one of its lives has a happening, which answer its askings."""

    def __init__(self, world, life):
        self.program = world.program
        self.life = life
        self.states = dict(world.states)
        self.numbers = dict(world.numbers)
        self.owns = dict(world.owns)
        self.touches = []
        self.founds = {}

    def answer_to(self, thing, deed, arguments):
        """Do the deed of an asking at once; its answer."""
        if deed == "born":
            self.bring_forth(thing, arguments)
        state = self.states[thing]
        number = self.numbers[thing]
        kind = kind_of(self.program, self.owns, thing)
        told, after = touch(thing, kind, state, number, self.life, deed, arguments)
        self.touches.append(told)
        if told[2] == "change":
            # A life that the happening makes was not there before it.
            found = None if deed == "born" else state
            self.founds.setdefault(thing, (thing, found, number))
            self.states[thing] = after
            self.numbers[thing] = told[1]
        return told[5]

    def bring_forth(self, life, arguments):
        """Bring a new life with its marks into the world."""
        self.owns[life] = first_own(self.program.flats[arguments[0]], arguments[1:])
        self.states[life] = ("unborn",)
        self.numbers[life] = 0
        for mark, value in mark_starts(self.program, life).items():
            self.states[mark] = value
            self.numbers[mark] = 0


def happen(world, life, *, by="reader"):
    """(world behind, happening) of a life that is due."""
    if not world.is_due(life):
        raise NotDue(life)
    scene = Scene(world, life)
    moment = (world.time, world.stage)
    before = world.own_part(life)
    if by == "machine":
        actor = Machine(world.program, life, before, moment, scene)
    else:
        actor = Reader(world.program, life, before, moment, scene)
    actor.have_happening()
    scene.owns[life] = actor.own_part()
    behind = World(world.program, moment, scene.states, scene.numbers, scene.owns)
    founds = tuple(scene.founds.values())
    return behind, Happening(life, moment, tuple(scene.touches), actor.outcome, before, founds)
