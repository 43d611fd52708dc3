"""A second, slow way to have happenings, written from the document alone, to check the reader and the machine by.

It goes through the blocks themselves, by generators that yield askings and get answers.
"""


class Fault(Exception):
    pass


class Rest(Exception):
    pass


class Leave(Exception):
    pass


def size_of(block):
    total = 0
    for statement in block:
        total += 1 + sum(size_of(part) for part in blocks_of(statement))
    return total


def blocks_of(statement):
    if statement[0] == "if":
        return [statement[2], statement[3]]
    if statement[0] == "while":
        return [statement[2]]
    return []


def true(value):
    return isinstance(value, str) or (value is not None and value != 0)


class Oracle:
    def __init__(self, program, life, own, moment):
        self.program, self.life, self.time, self.stage = program, life, moment[0], moment[1]
        self.moment = tuple(moment)
        self.name, fields, frames, held, self.asked, self.made = own
        flat = program.flats[self.name]
        variables = [member[1] for member in flat[4] if member[0] == "var"]
        self.fields = dict(zip(list(flat[2]) + variables, fields))
        self.deeds = {member[1]: (member[2], member[3]) for member in flat[4] if member[0] == "deed"}
        self.deeds["life"] = ((), [member[1] for member in flat[4] if member[0] == "life"][0])
        self.frames = [[body, at, dict(zip(self.deeds[body][0], values))] for body, at, values in frames]
        self.held = dict(held)
        self.count = 0

    def own(self):
        frames = tuple((body, at, tuple(values.values())) for body, at, values in self.frames)
        return (self.name, tuple(self.fields.values()), frames, tuple(sorted(self.held.items())), self.asked, self.made)

    def happening(self, own):
        if (yield (self.life, "run", self.moment)) != 1:
            return ("notdue",), own
        if self.asked:
            self.held[self.asked[0]] = self.held.get(self.asked[0], 0) + self.asked[1]
            self.asked = None
        try:
            while self.frames:
                yield from self.body()
                self.frames.pop()
            outcome = ("end",)
        except Rest:
            return ("rest",), self.own()
        except Fault as fault:
            outcome = ("fall", str(fault))
        for store in sorted(self.held):
            yield from self.release(store, self.held[store])
        yield (self.life,) + (outcome[0], outcome[1:])
        self.frames, self.held, self.asked = [], {}, None
        return outcome, self.own()

    def release(self, store, units):
        for other in (yield (store, "free", (units,))):
            yield (other, "grant", self.moment)

    def body(self):
        """Run the innermost frame to its end."""
        name, at, _ = self.frames[-1]
        try:
            yield from self.block(self.deeds[name][1], 1, at)
        except Leave:
            pass

    def block(self, block, first, at):
        """Run a block; at is 0, or the number of a statement inside at which the life stands."""
        number = first
        for statement in block:
            behind = number + size_of((statement,))
            if at == 0:
                yield from self.statement(statement, number)
            elif number < at < behind:
                yield from self.inside(statement, number, at)
                at = 0
            elif at == number:
                at = 0
            number = behind

    def inside(self, statement, number, at):
        """Go on in a statement with the statement at which the life stands inside of it."""
        if statement[0] == "while":
            yield from self.block(statement[2], number + 1, at)
            yield from self.loop(statement, number)
        else:
            middle = number + 1 + size_of(statement[2])
            if at < middle:
                yield from self.block(statement[2], number + 1, at)
            else:
                yield from self.block(statement[3], middle, at)

    def tick(self):
        if self.count == 60:
            raise Fault("spent")
        self.count += 1

    def loop(self, statement, number):
        while True:
            self.tick()
            if not true((yield from self.value(statement[1]))):
                return
            yield from self.block(statement[2], number + 1, 0)

    def statement(self, statement, number):
        word = statement[0]
        if word == "while":
            yield from self.loop(statement, number)
            return
        self.tick()
        yield from getattr(self, "do_" + word)(statement, number)

    def values(self, exprs):
        found = []
        for expr in exprs:
            found.append((yield from self.value(expr)))
        return tuple(found)

    def value(self, expr):
        word = expr[0]
        if word in ("number", "none"):
            return expr[1] if word == "number" else None
        if word in ("now", "me"):
            return self.time if word == "now" else self.life
        if word == "name":
            return (yield from self.named(expr[1]))
        if word in ("length", "first", "spare", "waiting", "isopen"):
            return (yield (expr[1], word, ()))
        left = yield from self.value(expr[1])
        if word == "mark":
            return (yield (self.a_life(left) + ":" + expr[2], "look", ()))
        if word == "stand":
            return (yield (self.a_life(left), "stand", ()))
        if word == "neg":
            return -self.a_number(left)
        if word == "not":
            return 0 if true(left) else 1
        if word in ("and", "or"):
            if true(left) == (word == "or"):
                return 1 if true(left) else 0
            return 1 if true((yield from self.value(expr[2]))) else 0
        return self.operate(word, left, (yield from self.value(expr[2])))

    def named(self, name):
        if name in self.frames[-1][2]:
            return self.frames[-1][2][name]
        if name in self.fields:
            return self.fields[name]
        if self.program.kinds[name] == "cell":
            return (yield (name, "look", ()))
        return name

    def a_life(self, value):
        if not isinstance(value, str):
            raise Fault("nolife")
        return value

    def a_number(self, value):
        if not isinstance(value, int):
            raise Fault("kind")
        return value

    def operate(self, sign, a, b):
        if sign in ("==", "!="):
            same = type(a) is type(b) and a == b
            return int(same == (sign == "=="))
        self.a_number(a)
        self.a_number(b)
        if sign in ("/", "mod") and b == 0:
            raise Fault("zero")
        results = {"<": lambda: int(a < b), "<=": lambda: int(a <= b), ">": lambda: int(a > b), ">=": lambda: int(a >= b),
                   "+": lambda: a + b, "-": lambda: a - b, "*": lambda: a * b, "/": lambda: a // b, "mod": lambda: a % b}
        result = results[sign]()
        if abs(result) > 999999999:
            raise Fault("big")
        return result

    def delayed(self, value):
        self.a_number(value)
        if value < 0:
            raise Fault("early")
        if value == 0:
            return (self.time, self.stage + 1)
        if self.time + value > 999999999:
            raise Fault("big")
        return (self.time + value, 0)

    def store(self, target, value):
        if target[0] == "mark":
            holder = yield from self.value(target[1])
            yield (self.a_life(holder) + ":" + target[2], "set", (value,))
        elif target[1] in self.frames[-1][2]:
            self.frames[-1][2][target[1]] = value
        elif target[1] in self.fields:
            self.fields[target[1]] = value
        else:
            yield (target[1], "set", (value,))

    def rest(self, number):
        self.frames[-1][1] = number
        raise Rest()

    def do_set(self, statement, number):
        value = yield from self.value(statement[2])
        yield from self.store(statement[1], value)

    def do_tell(self, statement, number):
        values = yield from self.values(statement[2])
        yield (self.life, "tell", (statement[1],) + values)

    def do_if(self, statement, number):
        if true((yield from self.value(statement[1]))):
            yield from self.block(statement[2], number + 1, 0)
        else:
            yield from self.block(statement[3], number + 1 + size_of(statement[2]), 0)

    def do_do(self, statement, number):
        values = yield from self.values(statement[2])
        if len(self.frames) >= 8:
            raise Fault("deep")
        self.frames[-1][1] = number
        self.frames.append([statement[1], 0, dict(zip(self.deeds[statement[1]][0], values))])
        yield from self.body()
        self.frames.pop()

    def do_hold(self, statement, number):
        moment = self.delayed((yield from self.value(statement[1])))
        yield (self.life, "hold", moment)
        self.rest(number)

    def do_sleep(self, statement, number):
        yield (self.life, "sleep", ())
        self.rest(number)

    def do_wake(self, statement, number):
        value = yield from self.value(statement[1])
        if statement[2] is None:
            yield (self.a_life(value), "wake", self.moment)
        else:
            delay = yield from self.value(statement[2])
            self.a_life(value)
            yield (value, "wake", self.delayed(delay))

    def do_stop(self, statement, number):
        yield (self.a_life((yield from self.value(statement[1]))), "stop", ())

    def do_seize(self, statement, number):
        _, store, expr = statement
        units = self.a_number((yield from self.value(expr)))
        size = [item[2] for item in self.program.tree if item[1] == store][0]
        if not 1 <= units <= size:
            raise Fault("count")
        if (yield (store, "seize", (units,))) == 1:
            self.held[store] = self.held.get(store, 0) + units
        else:
            self.asked = (store, units)
            yield (self.life, "waits", (store,))
            self.rest(number)

    def do_free(self, statement, number):
        _, store, expr = statement
        units = self.a_number((yield from self.value(expr)))
        if units < 1:
            raise Fault("count")
        if units > self.held.get(store, 0):
            raise Fault("unheld")
        self.held = {name: many for name, many in self.held.items() if name != store or many > units}
        if store in self.held:
            self.held[store] -= units
        yield from self.release(store, units)

    def do_wait(self, statement, number):
        if (yield (statement[1], "wait", ())) != 1:
            yield (self.life, "waits", (statement[1],))
            self.rest(number)

    def do_open(self, statement, number):
        for other in (yield (statement[1], "open", ())):
            yield (other, "grant", self.moment)

    def do_shut(self, statement, number):
        yield (statement[1], "shut", ())

    def do_put(self, statement, number):
        value = yield from self.value(statement[2])
        if (yield (statement[1], "put", (value,))) != 1:
            raise Fault("full")

    def do_take(self, statement, number):
        value = yield (statement[2], "take", ())
        yield from self.store(statement[1], value)

    def do_make(self, statement, number):
        _, target, name, exprs = statement
        values = yield from self.values(exprs)
        if self.life.count(".") >= 3:
            raise Fault("far")
        if self.made >= 9:
            raise Fault("many")
        self.made += 1
        child = self.life + "." + str(self.made)
        yield (child, "born", (name,) + values)
        yield from self.store(target, child)

    def do_leave(self, statement, number):
        raise Leave()
        yield


def oracle_alone(program, life, own, moment, answers):
    """As read_alone."""
    going = Oracle(program, life, own, moment).happening(own)
    askings = []
    given = None
    while True:
        try:
            asking = going.send(given)
        except StopIteration as end:
            return askings, end.value[0], end.value[1]
        askings.append(asking)
        if len(askings) > len(answers):
            return askings, ("open",), own
        given = answers[len(askings) - 1]
