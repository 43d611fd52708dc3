"""A life while it has a happening: what it asks, and what becomes of its own part."""

from wokenlives.errors import LivesError
from wokenlives.values import combine, is_number, later_moment

MOST_COUNTS = 60
MOST_FRAMES = 8
MOST_MADE = 9
MOST_DOTS = 3

# All that a life can fall with.
FAULTS = (
    "spent", "nolife", "kind", "zero", "big", "early", "deep", "count", "unheld", "full", "far", "many",
)


class Falls(LivesError):
    """The life falls with this fault."""

    def __init__(self, fault):
        super().__init__(f"the life falls with {fault}")
        self.fault = fault


class UsedUp(LivesError):
    """There is no answer to the last asking."""


class Answers:
    """Answers from a list, and the askings that have been made so far."""

    def __init__(self, given):
        self.given = list(given)
        self.askings = []

    def answer_to(self, thing, deed, arguments):
        """The next answer of the list."""
        self.askings.append((thing, deed, arguments))
        if len(self.askings) > len(self.given):
            raise UsedUp()
        return self.given[len(self.askings) - 1]


class Frame:
    """A body in which a life stands at a statement, with the arguments of the deed."""

    def __init__(self, body, at, arguments):
        self.body = body
        self.at = at
        self.arguments = list(arguments)


class Actor:
    """A life while it has a happening.

    The askings are answered by another object. What the life does next is told by the classes below this one.
    """

    def __init__(self, program, life, own, moment, answerer):
        self.program = program
        self.life = life
        self.before = own
        self.moment = moment
        self.answerer = answerer
        self.own_class, fields, frames, held, self.asked, self.made = own
        self.fields = list(fields)
        self.frames = [Frame(body, at, values) for body, at, values in frames]
        self.held = {store: units for store, units in held}
        self.counted = 0
        self.outcome = None

    def resume(self):
        """Find where the innermost frame goes on."""
        raise NotImplementedError("resume")

    def step(self):
        """Go on a little."""
        raise NotImplementedError("step")

    def have_happening(self):
        """Have the whole happening."""
        self.begin()
        while self.outcome is None:
            fault = self.fault_of_step()
            if fault is not None:
                self.finish(("fall", fault))

    def fault_of_step(self):
        """Go on a little; the fault with which the life falls, or None."""
        try:
            self.step()
        except Falls as fall:
            return fall.fault
        return None

    def begin(self):
        """Run, take over the units that the life waited for, and find where it goes on."""
        if self.ask(self.life, "run", self.moment) != 1:
            self.outcome = ("notdue",)
            return
        if self.asked is not None:
            store, units = self.asked
            self.hold_more(store, units)
            self.asked = None
        if self.frames == []:
            self.finish(("end",))
        else:
            self.resume()

    def ask(self, thing, deed, arguments):
        """The answer to an asking."""
        return self.answerer.answer_to(thing, deed, arguments)

    def own_part(self):
        """The own part that the happening leaves."""
        if self.outcome == ("notdue",):
            return self.before
        frames = tuple([(frame.body, frame.at, tuple(frame.arguments)) for frame in self.frames])
        held = tuple(sorted(self.held.items()))
        return (self.own_class, tuple(self.fields), frames, held, self.asked, self.made)

    def count_one(self):
        """Count a statement or a further test of a while."""
        if self.counted >= MOST_COUNTS:
            raise Falls("spent")
        self.counted += 1

    def rest(self, number):
        """Rest at a statement of the innermost frame."""
        frame = self.frames[-1]
        frame.at = number
        self.outcome = ("rest",)

    def call(self, deed, values, number):
        """Begin a frame of a deed; the frame below stands at the statement with this number."""
        if len(self.frames) >= MOST_FRAMES:
            raise Falls("deep")
        below = self.frames[-1]
        below.at = number
        self.frames.append(Frame(deed, 0, values))
        self.resume()

    def leave_frame(self):
        """End the innermost frame, and the life with the last one."""
        self.frames.pop()
        if self.frames == []:
            self.finish(("end",))
        else:
            self.resume()

    def finish(self, outcome):
        """End or fall: give back all that is held, and then tell it."""
        for store, units in sorted(self.held.items()):
            self.give_back(store, units)
        self.ask(self.life, outcome[0], outcome[1:])
        self.frames = []
        self.held = {}
        self.asked = None
        self.outcome = outcome

    def hold_more(self, store, units):
        """Add units of a store to those that the life holds by its own part."""
        self.held[store] = self.held.get(store, 0) + units

    def give_back(self, store, units):
        """Free units of a store, and make those due who get them."""
        self.grant_all(self.ask(store, "free", (units,)))

    def grant_all(self, lives):
        """Make lives due that got what they waited for."""
        for other in lives:
            self.ask(other, "grant", self.moment)

    def later(self, value):
        """The later moment by a value."""
        time, stage = self.moment
        moment, fault = later_moment(time, stage, value)
        if fault is not None:
            raise Falls(fault)
        return moment

    def combined(self, sign, left, right):
        """The value of an operator of two sides."""
        value, fault = combine(sign, left, right)
        if fault is not None:
            raise Falls(fault)
        return value

    def negative(self, value):
        """The negative of a number."""
        need_number(value)
        return -value

    def look(self, cell):
        """The value of a cell."""
        return self.ask(cell, "look", ())

    def look_at_mark(self, holder, mark):
        """The value of a mark of a life."""
        return self.ask(mark_of(holder, mark), "look", ())

    def stand_of(self, value):
        """The number of the stand of a life."""
        need_life(value)
        return self.ask(value, "stand", ())

    def set_cell(self, cell, value):
        """Store a value in a cell."""
        self.ask(cell, "set", (value,))

    def set_mark(self, holder, mark, value):
        """Store a value in a mark of a life."""
        self.ask(mark_of(holder, mark), "set", (value,))

    def set_argument(self, at, value):
        """Store a value in an argument of the innermost frame."""
        frame = self.frames[-1]
        frame.arguments[at] = value

    def set_field(self, at, value):
        """Store a value in an own field."""
        self.fields[at] = value

    def tell(self, word, values):
        """Tell a word with values."""
        self.ask(self.life, "tell", (word,) + values)

    def hold(self, value, number):
        """Rest at a statement, due at the later moment by a value."""
        self.ask(self.life, "hold", self.later(value))
        self.rest(number)

    def sleep(self, number):
        """Rest at a statement, asleep."""
        self.ask(self.life, "sleep", ())
        self.rest(number)

    def wake(self, value):
        """Make a life due now."""
        need_life(value)
        self.ask(value, "wake", self.moment)

    def wake_after(self, value, delay):
        """Make a life due later."""
        need_life(value)
        self.ask(value, "wake", self.later(delay))

    def stop(self, value):
        """Make a life that is due sleep."""
        need_life(value)
        self.ask(value, "stop", ())

    def seize(self, store, units, number):
        """Get units of a store, or rest at a statement until they come."""
        need_number(units)
        if units < 1 or units > self.program.item(store)[2]:
            raise Falls("count")
        if self.ask(store, "seize", (units,)) == 1:
            self.hold_more(store, units)
        else:
            self.asked = (store, units)
            self.wait_at(store, number)

    def wait_at(self, thing, number):
        """Rest at a statement until a store or a gate lets the life go on."""
        self.ask(self.life, "waits", (thing,))
        self.rest(number)

    def free(self, store, units):
        """Give some of the held units of a store back."""
        need_number(units)
        if units < 1:
            raise Falls("count")
        if units > self.held.get(store, 0):
            raise Falls("unheld")
        self.held[store] -= units
        if self.held[store] == 0:
            del self.held[store]
        self.give_back(store, units)

    def wait(self, gate, number):
        """Go through a gate, or rest at a statement until it opens."""
        if self.ask(gate, "wait", ()) != 1:
            self.wait_at(gate, number)

    def open_gate(self, gate):
        """Open a gate, and make those due who waited there."""
        self.grant_all(self.ask(gate, "open", ()))

    def shut_gate(self, gate):
        """Shut a gate."""
        self.ask(gate, "shut", ())

    def put(self, line, value):
        """Put a value into a line."""
        if self.ask(line, "put", (value,)) != 1:
            raise Falls("full")

    def take(self, thing):
        """What a line or a wheel gives."""
        return self.ask(thing, "take", ())

    def make(self, name, values):
        """Make a life of a class; its name."""
        if self.life.count(".") >= MOST_DOTS:
            raise Falls("far")
        if self.made >= MOST_MADE:
            raise Falls("many")
        self.made += 1
        made = f"{self.life}.{self.made}"
        self.ask(made, "born", (name,) + values)
        return made


def need_life(value):
    """Fall if a value is no life."""
    if not isinstance(value, str):
        raise Falls("nolife")


def need_number(value):
    """Fall if a value is no number."""
    if not is_number(value):
        raise Falls("kind")


def mark_of(holder, mark):
    """The name of a mark of a life."""
    need_life(holder)
    return f"{holder}:{mark}"


def happening_alone(actor):
    """(askings, outcome, own part) of a happening whose answers come from a list."""
    answers = actor.answerer
    try:
        actor.have_happening()
    except UsedUp:
        return answers.askings, ("open",), actor.before
    return answers.askings, actor.outcome, actor.own_part()
