"""Worlds as texts."""

from wokenlives.acting import FAULTS
from wokenlives.errors import BadWorld, Unsound
from wokenlives.sound import broken_rule
from wokenlives.things import THINGS
from wokenlives.values import value_text
from wokenlives.words import BadWords, Words
from wokenlives.worlds import World, mark_starts


def write_world(world):
    """The text of a world."""
    rows = [f"moment {world.time} {world.stage}"]
    for thing in world.things():
        kind = world.kind(thing)
        rows.append(f"thing {thing} {kind} {world.number(thing)} {state_text(kind, world.state(thing))}")
    for life in world.lives():
        rows.append(f"own {life} {own_text(world.own_part(life))}")
    return "\n".join(rows)


def state_text(kind, state):
    """The text of the state of a thing of this kind."""
    if kind in ("cell", "mark"):
        return value_text(state)
    return " ".join(state_words(kind, state))


def state_words(kind, state):
    """The words of the state of a thing that is not a cell or a mark."""
    if kind == "line":
        return counted(state)
    if kind == "store":
        size, spare, holders, waiting = state
        return [str(size), str(spare)] + counted_amounts(holders) + counted_amounts(waiting)
    if kind == "gate":
        isopen, waiting = state
        return [str(isopen)] + counted(waiting)
    return [str(part) for part in state]


def counted(values):
    """The count of values and their texts."""
    return [str(len(values))] + [value_text(value) for value in values]


def counted_amounts(amounts):
    """The count of pairs of a name and units, and their words."""
    words = [str(len(amounts))]
    for name, units in amounts:
        words.extend([name, str(units)])
    return words


def own_text(own):
    """The text of an own part."""
    name, fields, frames, held, asked, made = own
    words = [name, str(made), "fields"] + counted(fields) + ["frames", str(len(frames))]
    for body, at, values in frames:
        words.extend([body, str(at)] + counted(values))
    words.extend(["held"] + counted_amounts(held) + ["asked"])
    if asked is None:
        words.append("none")
    else:
        words.extend([asked[0], str(asked[1])])
    return " ".join(words)


class Draft:
    """The world that the rows of a text have told so far."""

    def __init__(self, program):
        self.program = program
        self.moment = None
        self.states = {}
        self.numbers = {}
        self.owns = {}
        self.stands = []
        # The names of the last rows of things and of own parts.
        self.last_thing = ""
        self.last_own = ""

    def read_row(self, words):
        """Read the next row."""
        word = words.next_word()
        if self.moment is None and word == "moment":
            self.moment = (words.next_number(), words.next_number())
        elif self.moment is not None and self.owns == {} and word == "thing":
            self.read_thing(words)
        elif self.moment is not None and word == "own":
            self.read_own(words)
        else:
            raise BadWords()
        words.need_end()

    def read_thing(self, words):
        """Read the row of a thing."""
        thing = words.next_word()
        if thing <= self.last_thing:
            raise BadWords()
        kind = kind_by_name(self.program, thing)
        words.need(kind)
        self.last_thing = thing
        self.numbers[thing] = words.next_number()
        self.states[thing] = read_state(kind, words)
        if kind == "stand":
            self.stands.append(thing)

    def read_own(self, words):
        """Read the row of an own part."""
        life = words.next_word()
        if life <= self.last_own:
            raise BadWords()
        self.last_own = life
        self.owns[life] = own_from(words)

    def is_complete(self):
        """Whether all things of the world and all own parts are there, and no others."""
        expected = [name for name, kind in self.program.kinds.items() if kind in THINGS] + self.stands
        for life in self.stands:
            expected.extend(mark_starts(self.program, life))
        return sorted(expected) == list(self.states) and self.stands == list(self.owns)


def kind_by_name(program, thing):
    """The kind that a thing of this name has."""
    if ":" in thing:
        return "mark"
    kind = program.kinds.get(thing)
    if "." in thing or kind == "start":
        return "stand"
    if kind not in THINGS:
        raise BadWords()
    return kind


def read_state(kind, words):
    """The state of a thing of this kind that comes next."""
    if kind in ("cell", "mark"):
        return words.next_value()
    if kind == "line":
        return words.some_values()
    if kind == "store":
        return (words.next_number(), words.next_number(), words.some_amounts(), words.some_amounts())
    if kind == "gate":
        return (words.next_number(), words.some_words())
    if kind == "wheel":
        return (words.next_number(), words.next_number())
    return read_stand(words)


def read_stand(words):
    """The state of a stand that comes next."""
    word = words.next_word()
    if word == "due":
        return (word, words.next_number(), words.next_number())
    if word == "waits":
        return (word, words.next_word())
    if word == "fallen":
        fault = words.next_word()
        if fault not in FAULTS:
            raise BadWords()
        return (word, fault)
    if word not in ("asleep", "running", "unborn", "ended"):
        raise BadWords()
    return (word,)


def own_from(words):
    """The own part that comes next, up to the end of the row."""
    name = words.next_word()
    made = words.next_number()
    words.need("fields")
    fields = words.some_values()
    words.need("frames")
    frames = tuple([(words.next_word(), words.next_number(), words.some_values()) for _ in range(words.next_number())])
    words.need("held")
    held = words.some_amounts()
    words.need("asked")
    return (name, fields, frames, held, asked_from(words), made)


def asked_from(words):
    """What a life has asked for, which stands at the end of the row."""
    store = words.next_word()
    if store == "none" and words.is_over():
        return None
    return (store, words.next_number())


def read_world(program, text):
    """The world of a text."""
    draft = Draft(program)
    rows = text.split("\n")
    for at, row in enumerate(rows):
        try:
            draft.read_row(Words(row))
        except BadWords:
            raise BadWorld(at + 1) from None
    if not draft.is_complete():
        raise BadWorld(len(rows) + 1)
    world = World(program, draft.moment, draft.states, draft.numbers, draft.owns)
    rule = broken_rule(world)
    if rule != 0:
        raise Unsound(rule)
    return world
