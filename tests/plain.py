"""Worlds as plain dicts and happenings in them by the oracle, to check the program's worlds by."""

from tests.oracle import Oracle
from wokenlives.things import do_deed
from wokenlives.worlds import World


def whole(world):
    """All that a world is, read by its methods."""
    things = [(thing, world.kind(thing), world.state(thing), world.number(thing)) for thing in world.things()]
    return (world.time, world.stage, things, [(life, world.own_part(life)) for life in world.lives()])


def changed(world, states=(), owns=(), moment=None, gone=()):
    """A world like this one, with other states, own parts or another moment."""
    moment = moment or (world.time, world.stage)
    new_states = {thing: world.state(thing) for thing in world.things() if thing not in gone}
    new_states.update(states)
    new_owns = {life: world.own_part(life) for life in world.lives() if life not in gone}
    new_owns.update(owns)
    return World(world.program, moment, new_states, {thing: 0 for thing in new_states}, new_owns)


def told_happening(happening):
    return tuple(vars(happening).items())


def plain_happening(world, life):
    """(what `whole` gives for the world behind, touches, outcome, founds) of a happening, made by the oracle."""
    program = world.program
    states = {thing: world.state(thing) for thing in world.things()}
    kinds = {thing: world.kind(thing) for thing in world.things()}
    numbers = {thing: world.number(thing) for thing in world.things()}
    owns = {name: world.own_part(name) for name in world.lives()}
    marks = [item for item in program.tree if item[0] == "mark"]
    going = Oracle(program, life, owns[life], (world.time, world.stage)).happening(owns[life])
    touches, founds, given, made = [], [], None, []
    while True:
        try:
            thing, deed, arguments = going.send(given)
        except StopIteration as end:
            outcome, owns[life] = end.value
            break
        if deed == "born":
            made.append(thing)
            flat = program.flats[arguments[0]]
            fields = arguments[1:] + tuple(member[2] for member in flat[4] if member[0] == "var")
            owns[thing] = (arguments[0], fields, (("life", 0, ()),), (), None, 0)
            states[thing], kinds[thing], numbers[thing] = ("unborn",), "stand", 0
            for _, mark, start in marks:
                name = thing + ":" + mark
                states[name], kinds[name], numbers[name] = start, "mark", 0
        after, given = do_deed(kinds[thing], states[thing], life, deed, arguments)
        mode = "look" if after == states[thing] else "change"
        if mode == "change":
            if thing not in [row[0] for row in founds]:
                founds.append((thing, None if thing in made else states[thing], numbers[thing]))
            numbers[thing] += 1
        states[thing] = after
        touches.append((thing, numbers[thing], mode, deed, arguments, given))
    rows = [(thing, kinds[thing], states[thing], numbers[thing]) for thing in sorted(states)]
    return (world.time, world.stage, rows, sorted(owns.items())), tuple(touches), outcome, tuple(founds)
