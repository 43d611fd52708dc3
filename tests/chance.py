"""Random programs, own parts and answers for the tests."""

from tests.oracle import blocks_of
from tests.texts import refusal
from wokenlives.programs import read_program

THINGS = """
cell num = 2; cell ref = 0; cell any = -1; line queue; store tool = 2; store desk = 3; gate door shut; gate gap open;
wheel turn = 3; mark pace = 1; mark mate = 0;
"""
STARTS = ("ann", "bob", "cat", "dan")


class Maker:
    """Makes the text of a random program whose names are right."""

    def __init__(self, chance):
        self.chance = chance
        self.classes = []
        self.rows = []

    def pick(self, *choices):
        return self.chance.choice(choices)

    def program(self):
        names = [f"kin{number}" for number in range(self.chance.randint(1, 3))]
        outers = {}
        for at, name in enumerate(names):
            outers[name] = self.chance.choice(names[:at]) if at and self.chance.random() < 0.6 else None
        self.shapes = {}
        for at, name in enumerate(names):
            self.shapes[name] = self.shape(name, at, outers[name])
        rows = [THINGS] + [self.class_text(name, outers[name]) for name in names]
        for life in STARTS:
            name = self.chance.choice(names)
            numbers = ", ".join(str(self.chance.randint(-1, 3)) for _ in self.shapes[name]["params"])
            when = self.pick("", "", "", " asleep", " at 1")
            rows.append(f"start {life} = {name}({numbers}){when};")
        self.chance.shuffle(rows)
        return "\n".join(rows)

    def shape(self, name, at, outer):
        """The params, vars and deeds that a class sees, and those of its own."""
        above = self.shapes[outer] if outer else {"params": [], "fields": [], "deeds": {}}
        params = [f"par{at}x{number}" for number in range(self.chance.randint(0, 1))]
        variables = [f"var{at}x{number}" for number in range(self.chance.randint(0, 2))]
        deeds = {f"deed{at}x{number}": self.chance.randint(0, 2) for number in range(self.chance.randint(0, 2))}
        for deed, many in above["deeds"].items():
            if self.chance.random() < 0.3:
                deeds[deed] = many
        return {
            "own": (params, variables, deeds), "params": above["params"] + params,
            "fields": above["fields"] + params + variables, "deeds": {**above["deeds"], **deeds},
        }

    def class_text(self, name, outer):
        self.shape_now = self.shapes[name]
        params, variables, deeds = self.shape_now["own"]
        within = f" within {outer}" if outer else ""
        rows = [f"class {name}({', '.join(params)}){within} {{"]
        for variable in variables:
            rows.append(f"var {variable} = {self.chance.randint(-2, 3)};")
        for deed, many in deeds.items():
            arguments = [f"arg{number}" for number in range(many)]
            self.arguments = arguments
            rows.append(f"deed {deed}({', '.join(arguments)}) {{ {self.block(2, 4)} }}")
        self.arguments = []
        if self.chance.random() < 0.9:
            inner = self.pick("", "inner;", "while 1 { inner; }", "if num { inner; } else { sleep; }")
            rows.append(f"life {{ {self.whole_life(inner)} }}")
        rows.append("}")
        return "\n".join(rows)

    def whole_life(self, inner):
        return f"{self.block(3, 6)} {inner} {self.block(2, 3)}"

    def block(self, depth, most):
        return " ".join(self.statement(depth) for _ in range(self.chance.randint(0, most)))

    def field(self):
        return self.chance.choice(self.shape_now["fields"] + self.arguments + ["num", "ref", "any"])

    def target(self):
        return self.pick(self.field(), self.field(), self.holder() + "." + self.pick("pace", "mate"))

    def holder(self):
        return self.pick("me", "ann", "bob", "ref", "ref", self.field())

    def life(self):
        return self.pick("me", "ann", "bob", "cat", "dan", "ref", "me.mate", "first(queue)", self.field())

    def small(self):
        return self.pick("0", "1", "1", "1", "2", "2", "3", "num", "me.pace", self.field(), self.number(1))

    def number(self, depth):
        simple = ["0", "1", "2", "7", "999999999", "now", "num", "me.pace", "none", self.field(), self.holder() + ".pace",
                  "length(queue)", "spare(tool)", "waiting(desk)", "waiting(door)", "isopen(gap)", "stand(" + self.life() + ")"]
        if depth <= 0 or self.chance.random() < 0.4:
            return self.chance.choice(simple)
        left, right = self.number(depth - 1), self.number(depth - 1)
        return self.pick(
            f"({left} {self.pick('+', '-', '*', '/', 'mod', '<', '<=', '>', '>=', '==', '!=')} {right})",
            f"({left} {self.pick('+', '-', '<', '==', '!=')} {right})",
            f"({left} {self.pick('and', 'or')} {right})", f"(not {left})", f"-{left}",
        )

    def exprs(self, many):
        return ", ".join(self.pick(self.number(1), self.life(), "none") for _ in range(many))

    def statement(self, depth):
        inside = depth > 0
        kind = self.chance.choice(
            "set set tell if if while do do hold sleep wake wake stop seize seize free wait open shut put take take make "
            "leave".split()
        )
        if kind in ("if", "while") and not inside:
            kind = "set"
        if kind == "do" and not self.shape_now["deeds"]:
            kind = "put"
        if kind == "leave" and self.chance.random() < 0.5:
            kind = "take"
        return getattr(self, "text_of_" + kind)(depth)

    def text_of_set(self, depth):
        return f"set {self.target()} = {self.pick(self.number(2), self.life())};"

    def text_of_tell(self, depth):
        return f"tell word({self.exprs(self.chance.randint(0, 2))});"

    def text_of_if(self, depth):
        other = self.pick("", "else { }", "else { " + self.block(depth - 1, 3) + " }")
        return f"if {self.number(2)} {{ {self.block(depth - 1, 3)} }} {other}"

    def text_of_while(self, depth):
        return f"while {self.number(2)} {{ {self.block(depth - 1, 3)} }}"

    def text_of_do(self, depth):
        deed = self.chance.choice(list(self.shape_now["deeds"]))
        return f"do {deed}({self.exprs(self.shape_now['deeds'][deed])});"

    def text_of_hold(self, depth):
        return f"hold {self.small()};"

    def text_of_sleep(self, depth):
        return "sleep;"

    def text_of_wake(self, depth):
        return f"wake {self.life()}{self.pick('', '', ' after ' + self.small())};"

    def text_of_stop(self, depth):
        return f"stop {self.life()};"

    def text_of_seize(self, depth):
        return f"seize {self.small()} of {self.pick('tool', 'desk')};"

    def text_of_free(self, depth):
        return f"free {self.pick('1', self.small())} of {self.pick('tool', 'desk')};"

    def text_of_wait(self, depth):
        return f"wait {self.pick('door', 'gap')};"

    def text_of_open(self, depth):
        return f"open {self.pick('door', 'gap')};"

    def text_of_shut(self, depth):
        return f"shut {self.pick('door', 'gap')};"

    def text_of_put(self, depth):
        return f"put {self.pick(self.number(1), self.life())} into queue;"

    def text_of_take(self, depth):
        return f"take {self.target()} from {self.pick('queue', 'turn')};"

    def text_of_make(self, depth):
        name = self.chance.choice(list(self.shapes))
        return f"make {self.target()} = {name}({self.exprs(len(self.shapes[name]['params']))});"

    def text_of_leave(self, depth):
        return "leave;"


def random_program_text(chance):
    return Maker(chance).program()


def statements_of(block):
    found = []
    for statement in block:
        found.append(statement)
        for part in blocks_of(statement):
            found.extend(statements_of(part))
    return found


def random_value(chance):
    return chance.choice((0, 1, 2, 3, -1, 7, None, "ann", "bob", "cat", "ann.1", 999999999, -999999999))


def random_values(chance, many):
    return tuple(random_value(chance) for _ in range(many))


def random_own(chance, program):
    """An own part with frames and asked as in rule 8 of point 61, or that of a life that is over."""
    name = chance.choice(list(program.flats))
    flat = program.flats[name]
    deeds = {member[1]: member for member in flat[4] if member[0] == "deed"}
    bodies = {deed: member[3] for deed, member in deeds.items()}
    bodies["life"] = [member[1] for member in flat[4] if member[0] == "life"][0]
    fields = random_values(chance, len(flat[2]) + len([member for member in flat[4] if member[0] == "var"]))
    held = tuple((store, chance.randint(1, 4)) for store in ("desk", "tool") if chance.random() < 0.4)
    made = chance.choice((0, 0, 1, 8, 9))
    if chance.random() < 0.05:
        asked = chance.choice((None, ("tool", 1), ("desk", 3)))
        return (name, fields, (), held, asked, made)
    frames, statement = [], None
    body, values = "life", ()
    while True:
        numbered = list(enumerate(statements_of(bodies[body]), 1))
        calls = [row for row in numbered if row[1][0] == "do"]
        rests = [row for row in numbered if row[1][0] in ("hold", "sleep", "seize", "wait")]
        if calls and len(frames) < 7 and chance.random() < 0.7:
            number, call = chance.choice(calls)
            frames.append((body, number, values))
            body, values = call[1], random_values(chance, len(deeds[call[1]][2]))
        elif rests:
            number, statement = chance.choice(rests)
            frames.append((body, number, values))
            break
        else:
            frames = [("life", 0, ())]
            break
    asked = None
    if statement is not None and statement[0] == "seize" and chance.random() < 0.7:
        asked = (statement[1], chance.randint(1, 3))
    return (name, fields, tuple(frames), held, asked, made)


def fitting_answer(chance, asking):
    """An answer that point 46 names."""
    _, deed, _ = asking
    if deed in ("look", "take", "first"):
        return random_value(chance)
    if deed in ("length", "spare", "waiting"):
        return chance.choice((0, 1, 2, 20))
    if deed == "run":
        return 1 if chance.random() < 0.99 else 0
    if deed in ("seize", "wait", "put"):
        return 1 if chance.random() < 0.7 else 0
    if deed == "stand":
        return chance.randint(0, 6)
    if deed in ("free", "open"):
        return chance.choice(((), (), ("bob",), ("cat", "ann", "zoe.1")))
    if deed in ("set", "shut"):
        return None
    return chance.choice((0, 1))


def random_answers(chance, alone, program, life, own, moment):
    """Fitting answers for a whole happening, found by asking one after the other."""
    answers = []
    while True:
        askings, outcome, _ = alone(program, life, own, moment, answers)
        if outcome != ("open",):
            return answers
        answers.append(fitting_answer(chance, askings[-1]))


class CalmMaker(Maker):
    """Makes programs whose lives seldom fall, so that much happens in their worlds."""

    def block(self, depth, most):
        rows = [self.statement(depth) for _ in range(self.chance.randint(1, most))]
        if self.chance.random() < 0.6:
            store = self.pick("tool", "desk")
            many = self.pick(1, 1, 2)
            rows = [f"seize {many} of {store};"] + rows + [f"free {many} of {store};"]
        return " ".join(rows)

    def whole_life(self, inner):
        return f"while now < 6 {{ {self.block(2, 5)} {inner} {self.block(1, 3)} hold 1; }}"

    def field(self):
        return self.chance.choice(self.shape_now["fields"] + self.arguments + ["num"])

    def target(self):
        return self.pick(self.field(), self.holder() + ".pace")

    def holder(self):
        return self.pick("me", "ann", "bob", "cat")

    def life(self):
        return self.pick("me", "ann", "bob", "cat", "dan")

    def small(self):
        return self.pick("0", "1", "1", "2", "num * num mod 2")

    def number(self, depth):
        return self.pick("0", "1", "2", "now", "num mod 3", "me.pace == 1", "ann.pace < bob.pace", "length(queue)",
                         "num < spare(tool) + waiting(door)", "isopen(gap)", "(num or now) mod 2", "stand(bob) == 1")

    def text_of_set(self, depth):
        return f"set {self.target()} = {self.number(1)};"

    def text_of_seize(self, depth):
        return f"if stand({self.life()}) == 1 {{ wake {self.life()}; }}"

    text_of_free = text_of_seize

    def text_of_sleep(self, depth):
        return f"wake {self.life()} after {self.small()}; sleep;"

    def text_of_while(self, depth):
        return f"set num = 2; while num > 0 {{ set num = num - 1; {self.block(depth - 1, 2)} }}"

    def text_of_do(self, depth):
        deed = self.chance.choice(list(self.shape_now["deeds"]))
        if self.arguments:
            return "tell bye();"
        return f"do {deed}({self.exprs(self.shape_now['deeds'][deed])});"

    def exprs(self, many):
        return ", ".join(self.pick("0", "1", "num mod 2") for _ in range(many))

    def text_of_take(self, depth):
        return f"take {self.pick('any', 'me.mate')} from {self.pick('queue', 'turn')};"

    def text_of_make(self, depth):
        name = self.chance.choice(list(self.shapes))
        return f"make ref = {name}({self.exprs(len(self.shapes[name]['params']))}); wake ref;"

    def text_of_leave(self, depth):
        return "tell hello(now, me, ref, any);"


def calm_program_text(chance):
    while True:
        text = CalmMaker(chance).program()
        if refusal(read_program, text) is None:
            return text
