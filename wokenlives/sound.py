"""Whether a world is sound.

Each rule is asked only where the rules before it are kept.
"""

from wokenlives.acting import MOST_DOTS, MOST_FRAMES, MOST_MADE
from wokenlives.things import LONGEST_LINE
from wokenlives.values import LIMIT, is_number


def things_of(world, kind):
    """The names of the things of this kind that the program's items name."""
    return [name for name, word in world.program.kinds.items() if word == kind]


def waiting_at(world, thing):
    """The names of the lives that stand in the waiting of a store or a gate."""
    if world.program.kinds[thing] == "store":
        return [life for life, _ in world.state(thing)[3]]
    return list(world.state(thing)[1])


def ascending(names):
    """Whether names are in ascending order and each one stands there once."""
    return all([before < after for before, after in zip(names, names[1:])])


def keeps_lives(world):
    """Rule 1: which lives there are, and their classes."""
    starts = {item[1]: item[2] for item in world.program.tree if item[0] == "start"}
    lives = world.lives()
    expected = list(starts)
    for life in lives:
        made = world.own_part(life)[5]
        if made < 0 or made > MOST_MADE or life.count(".") > MOST_DOTS:
            return False
        expected.extend([f"{life}.{number}" for number in range(1, made + 1)])
    if sorted(expected) != lives:
        return False
    for life in lives:
        name, fields = world.own_part(life)[:2]
        if name not in world.program.flats or name != starts.get(life, name):
            return False
        if len(fields) != len(world.program.scopes[(name, "life")].fields):
            return False
    return True


def keeps_stands(world):
    """Rule 2: no life is unborn or running, or due at a moment that is over."""
    for life in world.lives():
        stand = world.state(life)
        if stand[0] in ("unborn", "running"):
            return False
        if stand[0] == "due" and stand[1:] < (world.time, world.stage):
            return False
    return True


def keeps_waiting(world):
    """Rule 3: who waits where."""
    expected = {thing: [] for thing in things_of(world, "store") + things_of(world, "gate")}
    for life in world.lives():
        stand = world.state(life)
        if stand[0] == "waits":
            if stand[1] not in expected:
                return False
            expected[stand[1]].append(life)
    for thing, lives in expected.items():
        if sorted(waiting_at(world, thing)) != lives:
            return False
    return True


def keeps_stores(world):
    """Rule 4: the units of the stores."""
    return all([is_right_store(world, store) for store in things_of(world, "store")])


def is_right_store(world, store):
    """Whether the units of a store are right."""
    size, spare, holders, waiting = world.state(store)
    lives = {life: True for life in world.lives()}
    if size != world.program.item(store)[2] or spare < 0:
        return False
    if not ascending([life for life, _ in holders]):
        return False
    for life, units in holders:
        if life not in lives or units < 1:
            return False
    if spare + sum([units for _, units in holders]) != size:
        return False
    for _, units in waiting:
        if units < 1 or units > size:
            return False
    return waiting == () or waiting[0][1] > spare


def keeps_gates(world):
    """Rule 5: the gates."""
    for gate in things_of(world, "gate"):
        isopen, waiting = world.state(gate)
        if isopen not in (0, 1) or (isopen == 1 and waiting != ()):
            return False
    return True


def keeps_wheels_and_lines(world):
    """Rule 6: the wheels and the lines."""
    for wheel in things_of(world, "wheel"):
        size, place = world.state(wheel)
        if size != world.program.item(wheel)[2] or place < 0 or place >= size:
            return False
    return all([len(world.state(line)) <= LONGEST_LINE for line in things_of(world, "line")])


def keeps_units(world):
    """Rule 7: what the lives hold and have asked for, by their own parts and by the stores."""
    for life in world.lives():
        if not is_right_asking(world, life) or not is_right_holding(world, life):
            return False
    return units_by_stores(world) == units_by_lives(world)


def is_right_asking(world, life):
    """Whether what a life has asked for is what it waits for."""
    stand = world.state(life)
    asked = world.own_part(life)[4]
    if asked is not None and not is_right_amount(world, asked):
        return False
    if stand[0] != "waits":
        return True
    if world.program.kinds[stand[1]] == "gate":
        return asked is None
    wanted = [units for other, units in world.state(stand[1])[3] if other == life]
    return asked == (stand[1], wanted[0])


def is_right_holding(world, life):
    """Whether what a life holds by its own part has the right form."""
    held = world.own_part(life)[3]
    if not ascending([store for store, _ in held]):
        return False
    return all([is_right_amount(world, amount) for amount in held])


def is_right_amount(world, amount):
    """Whether an amount is some units of a store."""
    store, units = amount
    return world.program.kinds.get(store) == "store" and units >= 1


def units_by_stores(world):
    """A dict from each store and holder to the units, by the stores."""
    found = {}
    for store in things_of(world, "store"):
        for life, units in world.state(store)[2]:
            found[(store, life)] = units
    return found


def units_by_lives(world):
    """A dict from each store and holder to the units, by the own parts; what is still waited for does not count."""
    found = {}
    for life in world.lives():
        held, asked = world.own_part(life)[3:5]
        amounts = list(held)
        if asked is not None and world.state(life) != ("waits", asked[0]):
            amounts.append(asked)
        for store, units in amounts:
            found[(store, life)] = found.get((store, life), 0) + units
    return found


def keeps_frames(world):
    """Rule 8: where the lives stand."""
    return all([is_right_life(world, life) for life in world.lives()])


def is_right_life(world, life):
    """Whether the frames of a life are right."""
    stand = world.state(life)
    name, _, frames, held, asked, _ = world.own_part(life)
    if stand[0] in ("ended", "fallen"):
        return frames == () and held == () and asked is None
    if len(frames) < 1 or len(frames) > MOST_FRAMES:
        return False
    if frames[0][0] != "life" or frames[0][2] != ():
        return False
    if not all([is_deed_frame(world, name, frame) for frame in frames[1:]]):
        return False
    for frame, above in zip(frames, frames[1:]):
        if statement_at(world, name, frame)[:2] != ("do", above[0]):
            return False
    return is_right_rest(world, name, frames, stand, asked)


def is_deed_frame(world, name, frame):
    """Whether a frame is one of a deed of a class, with as many values as the deed has arguments."""
    body, _, values = frame
    if body == "life" or (name, body) not in world.program.scopes:
        return False
    return len(values) == len(world.program.scopes[(name, body)].arguments)


def statement_at(world, name, frame):
    """The statement at which a frame stands, or () if it stands at none."""
    body, at, _ = frame
    statements = world.program.scopes[(name, body)].statements
    if at < 1 or at > len(statements):
        return ()
    return statements[at - 1]


def is_right_rest(world, name, frames, stand, asked):
    """Whether the innermost frame stands where a life can rest that waits and has asked for this."""
    statement = statement_at(world, name, frames[-1])
    if statement == ():
        # Only a life that has done nothing yet stands at none.
        if len(frames) > 1 or frames[-1][1] != 0:
            return False
    elif statement[0] not in ("hold", "sleep", "seize", "wait"):
        return False
    if stand[0] == "waits" and statement[:2] not in (("seize", stand[1]), ("wait", stand[1])):
        return False
    return asked is None or statement[:2] == ("seize", asked[0])


def keeps_values(world):
    """Rule 9: the values."""
    lives = {life: True for life in world.lives()}
    return all([is_value(lives, value) for value in values_in(world)])


def values_in(world):
    """The list of the values in cells, marks, lines, fields and frames."""
    values = []
    for name in world.things():
        if ":" in name or world.program.kinds.get(name) == "cell":
            values.append(world.state(name))
        elif world.program.kinds.get(name) == "line":
            values.extend(world.state(name))
    for life in world.lives():
        _, fields, frames, _, _, _ = world.own_part(life)
        values.extend(fields)
        for frame in frames:
            values.extend(frame[2])
    return values


def is_value(lives, value):
    """Whether a value is a number, None or one of these lives."""
    if is_number(value):
        return -LIMIT <= value <= LIMIT
    return value is None or value in lives


RULES = (
    keeps_lives,
    keeps_stands,
    keeps_waiting,
    keeps_stores,
    keeps_gates,
    keeps_wheels_and_lines,
    keeps_units,
    keeps_frames,
    keeps_values,
)


def broken_rule(world):
    """The least number of a rule that the world breaks, or 0."""
    for at in range(len(RULES)):
        keeps_rule = RULES[at]
        if not keeps_rule(world):
            return at + 1
    return 0
