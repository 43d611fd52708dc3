"""Ways: all that a world can tell up to a time, whatever the order of its lives is."""

from wokenlives.errors import TooLong
from wokenlives.happenings import happen
from wokenlives.runs import end_reason, told_texts
from wokenlives.worlds import advance
from wokenlives.worldtext import write_world


class Step:
    """A happening that leads to a world: its life, what it tells, and the place of the world behind."""

    def __init__(self, life, texts, behind):
        self.life = life
        self.texts = texts
        self.behind = behind


class Atlas:
    """The different worlds behind the advancing courses of a world up to a time; the world itself has the place 0."""

    def __init__(self, world, until, most):
        self.until = until
        self.most = most
        self.places = {}
        self.worlds = []
        # For each world the list of the steps that begin there, in ascending order of the lives.
        self.steps = []
        self.place_of_world(world)
        while len(self.steps) < len(self.worlds):
            self.steps.append(self.steps_from(self.worlds[len(self.steps)]))

    def place_of_world(self, world):
        """The place of a world, which is a new one if no world with its text has been met."""
        text = write_world(world)
        if text not in self.places:
            if len(self.worlds) >= self.most:
                raise TooLong(self.most)
            self.places[text] = len(self.worlds)
            self.worlds.append(world)
        return self.places[text]

    def steps_from(self, world):
        """The list of the steps that begin at a world."""
        if end_reason(world, self.until, 1) is not None:
            return []
        ahead = advance(world)
        found = []
        for life in ahead.due():
            behind, happening = happen(ahead, life)
            found.append(Step(life, told_texts([happening]), self.place_of_world(behind)))
        return found

    def backwards(self):
        """The list of the places, each one behind those of the worlds that steps lead to from there."""
        # Each happening changes the stand of its life, so the numbers of a world behind are more together.
        found = sorted([(changes_of(world), place) for place, world in enumerate(self.worlds)], reverse=True)
        return [place for _, place in found]

    def tellers(self):
        """The list of the lives that tell something, in ascending order."""
        found = {}
        for steps in self.steps:
            for step in steps:
                if step.texts != []:
                    found[step.life] = True
        return sorted(found)


def changes_of(world):
    """How many changes the things of a world have had."""
    return sum([world.number(thing) for thing in world.things()])


class Tellings:
    """What lives tell, by numbers.

    A telling is a tuple of one number for each life. The number 0 stands for no rows, any other one for a first row
    and the number of the rows behind it; the same rows have the same number, so that tellings are compared fast.
    """

    def __init__(self, lives):
        self.columns = {life: at for at, life in enumerate(lives)}
        self.none_told = (0,) * len(lives)
        self.numbers = {}
        self.chains = [("", 0)]

    def number_of(self, chain):
        """The number of a first row and the number of the rows behind it."""
        if chain not in self.numbers:
            self.numbers[chain] = len(self.chains)
            self.chains.append(chain)
        return self.numbers[chain]

    def with_step(self, step, telling):
        """What is told if a step comes before a telling."""
        if step.texts == []:
            return telling
        at = self.columns[step.life]
        number = telling[at]
        for text in reversed(step.texts):
            number = self.number_of((text, number))
        return telling[:at] + (number,) + telling[at + 1:]

    def way(self, telling):
        """The tuple of the texts of a telling."""
        found = []
        for first in telling:
            number = first
            while number != 0:
                text, number = self.chains[number]
                found.append(text)
        return tuple(found)


def ways(world, *, until, most=300):
    """The list of the ways of a world up to a time, in ascending order."""
    atlas = Atlas(world, until, most)
    tellings = Tellings(atlas.tellers())
    found = {}
    for place in atlas.backwards():
        told = {}
        for step in atlas.steps[place]:
            for telling in found[step.behind]:
                told[tellings.with_step(step, telling)] = True
        if atlas.steps[place] == []:
            told[tellings.none_told] = True
        found[place] = told
    return sorted([tellings.way(telling) for telling in found[0]])


def lone_tellings(atlas, tellings):
    """A dict from each place to what is told from there on, or None if that can be several things."""
    found = {}
    for place in atlas.backwards():
        told = [told_with(tellings, step, found[step.behind]) for step in atlas.steps[place]]
        if told == []:
            found[place] = tellings.none_told
        elif all([telling == told[0] for telling in told]):
            found[place] = told[0]
        else:
            found[place] = None
    return found


def told_with(tellings, step, telling):
    """What is told if a step comes before a telling, or None if there is None."""
    if telling is None:
        return None
    return tellings.with_step(step, telling)


def last_fork(world, *, until, most=300):
    """(course, first, second, first way, second way) of the last fork of a world up to a time, or None."""
    atlas = Atlas(world, until, most)
    tellings = Tellings(atlas.tellers())
    lone = lone_tellings(atlas, tellings)
    if lone[0] is not None:
        return None
    taken = []
    ahead = atlas.steps[0]
    forked = [step for step in ahead if lone[step.behind] is None]
    while forked != []:
        taken.append(forked[0])
        ahead = atlas.steps[forked[0].behind]
        forked = [step for step in ahead if lone[step.behind] is None]
    found = [(step.life, way_by(tellings, taken + [step], lone[step.behind])) for step in ahead]
    first, first_way = found[0]
    second, second_way = [row for row in found if row[1] != first_way][0]
    return tuple([step.life for step in taken]), first, second, first_way, second_way


def way_by(tellings, steps, telling):
    """The way of steps and what is told behind them."""
    for step in reversed(steps):
        telling = tellings.with_step(step, telling)
    return tellings.way(telling)
