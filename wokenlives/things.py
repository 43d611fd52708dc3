"""All that lives share: the states of things, and the deeds that are done at them."""

from wokenlives.errors import BadDeed
from wokenlives.values import LIMIT, is_number

LONGEST_LINE = 20

# The items that are things themselves.
THINGS = ("cell", "line", "store", "gate", "wheel")

# What the arguments of each deed are; `values` stands for any number of values.
SHAPES = {
    ("cell", "look"): (),
    ("cell", "set"): ("value",),
    ("mark", "look"): (),
    ("mark", "set"): ("value",),
    ("line", "put"): ("value",),
    ("line", "take"): (),
    ("line", "length"): (),
    ("line", "first"): (),
    ("store", "seize"): ("units",),
    ("store", "free"): ("units",),
    ("store", "spare"): (),
    ("store", "waiting"): (),
    ("gate", "wait"): (),
    ("gate", "open"): (),
    ("gate", "shut"): (),
    ("gate", "isopen"): (),
    ("gate", "waiting"): (),
    ("wheel", "take"): (),
    ("stand", "born"): ("word", "values"),
    ("stand", "run"): ("time", "stage"),
    ("stand", "tell"): ("word", "values"),
    ("stand", "sleep"): (),
    ("stand", "hold"): ("time", "stage"),
    ("stand", "waits"): ("word",),
    ("stand", "end"): (),
    ("stand", "fall"): ("word",),
    ("stand", "wake"): ("time", "stage"),
    ("stand", "stop"): (),
    ("stand", "grant"): ("time", "stage"),
    ("stand", "stand"): (),
}

# The words of the states of a stand, at the number that the deed `stand` answers.
STANDS = ("unborn", "asleep", "due", "running", "waits", "ended", "fallen")

# For each deed of a stand the word of the state that it asks for and that of the state that it leaves.
PASSAGES = {
    "born": ("unborn", "asleep"),
    "run": ("due", "running"),
    "tell": ("running", "running"),
    "sleep": ("running", "asleep"),
    "hold": ("running", "due"),
    "waits": ("running", "waits"),
    "end": ("running", "ended"),
    "fall": ("running", "fallen"),
    "wake": ("asleep", "due"),
    "stop": ("due", "asleep"),
    "grant": ("waits", "due"),
}


def start_state(item):
    """The state at the start of the thing that an item names."""
    word = item[0]
    if word == "line":
        return ()
    if word == "store":
        return (item[2], item[2], (), ())
    if word == "gate":
        return (1 if item[2] == "open" else 0, ())
    if word == "wheel":
        return (item[2], 0)
    if word == "start":
        return start_stand(item[4])
    return item[2]


def start_stand(when):
    """The state at the start of the stand of a life that a start item names."""
    if when is None:
        return ("asleep",)
    return ("due", when, 0)


def fits(kind, deed, arguments):
    """Whether things of this kind know this deed with such arguments."""
    shape = SHAPES.get((kind, deed))
    if shape is None:
        return False
    if shape[-1:] == ("values",):
        shape = shape[:-1] + ("value",) * (len(arguments) - len(shape) + 1)
    if len(arguments) != len(shape):
        return False
    for part, argument in zip(shape, arguments):
        if not fits_part(part, argument):
            return False
    return True


def fits_part(part, argument):
    """Whether an argument is what this word of a shape names."""
    if part == "word":
        return isinstance(argument, str)
    if part == "value" and (argument is None or isinstance(argument, str)):
        return True
    if not is_number(argument):
        return False
    if part == "stage":
        return argument >= 0
    least = -LIMIT
    if part == "units":
        least = 1
    if part == "time":
        least = 0
    return least <= argument <= LIMIT


def do_deed(kind, state, life, deed, arguments):
    """The new state of a thing and the answer."""
    if not fits(kind, deed, arguments):
        raise BadDeed(kind, deed)
    act = ACTIONS[kind]
    return act(state, life, deed, arguments)


def touch(thing, kind, state, number, life, deed, arguments):
    """The touch of a deed at a thing with this state and number, and the new state."""
    after, answer = do_deed(kind, state, life, deed, arguments)
    if after == state:
        return (thing, number, "look", deed, arguments, answer), after
    return (thing, number + 1, "change", deed, arguments, answer), after


def do_at_cell(state, life, deed, arguments):
    """A deed at a cell or a mark."""
    if deed == "set":
        return arguments[0], None
    return state, state


def do_at_line(state, life, deed, arguments):
    """A deed at a line."""
    if deed == "put":
        if len(state) >= LONGEST_LINE:
            return state, 0
        return state + arguments, 1
    if deed == "length":
        return state, len(state)
    if state == ():
        return state, None
    if deed == "take":
        return state[1:], state[0]
    return state, state[0]


def do_at_store(state, life, deed, arguments):
    """A deed at a store."""
    if deed == "seize":
        return seize(state, life, arguments[0])
    if deed == "free":
        return free(state, life, arguments[0])
    if deed == "spare":
        return state, state[1]
    return state, len(state[3])


def seize(state, life, units):
    """Get units of a store, or wait for them behind those who wait already."""
    size, spare, holders, waiting = state
    if waiting == () and units <= spare:
        return (size, spare - units, with_units(holders, life, units), waiting), 1
    return (size, spare, holders, waiting + ((life, units),)), 0


def free(state, life, units):
    """Give units back to a store, and then to the first ones who wait, as far as they suffice."""
    size, spare, holders, waiting = state
    if units_of(holders, life) < units:
        return state, None
    spare += units
    holders = with_units(holders, life, -units)
    many = 0
    while many < len(waiting) and waiting[many][1] <= spare:
        other, wanted = waiting[many]
        spare -= wanted
        holders = with_units(holders, other, wanted)
        many += 1
    answer = tuple([other for other, _ in waiting[:many]])
    return (size, spare, holders, waiting[many:]), answer


def units_of(holders, life):
    """The units that a life holds, from 0."""
    for holder, units in holders:
        if holder == life:
            return units
    return 0


def with_units(holders, life, more):
    """The holders when a life holds so many units more, in ascending order and without 0 units."""
    units = units_of(holders, life) + more
    others = [row for row in holders if row[0] != life]
    if units > 0:
        others.append((life, units))
    return tuple(sorted(others))


def do_at_gate(state, life, deed, arguments):
    """A deed at a gate."""
    isopen, waiting = state
    if deed == "wait":
        if isopen == 1:
            return state, 1
        return (isopen, waiting + (life,)), 0
    if deed == "open":
        return (1, ()), waiting
    if deed == "shut":
        return (0, waiting), None
    if deed == "isopen":
        return state, isopen
    return state, len(waiting)


def do_at_wheel(state, life, deed, arguments):
    """The deed of a wheel."""
    size, place = state
    after = place + 1
    if after >= size:
        after = 0
    return (size, after), place


def do_at_stand(state, life, deed, arguments):
    """A deed at the stand of a life."""
    if deed == "stand":
        return state, STANDS.index(state[0])
    asked, left = PASSAGES[deed]
    if state[0] != asked:
        return state, 0
    if deed == "run" and state != ("due",) + arguments:
        return state, 0
    if left in ("due", "waits", "fallen"):
        return (left,) + arguments, 1
    return (left,), 1


ACTIONS = {
    "cell": do_at_cell,
    "mark": do_at_cell,
    "line": do_at_line,
    "store": do_at_store,
    "gate": do_at_gate,
    "wheel": do_at_wheel,
    "stand": do_at_stand,
}
