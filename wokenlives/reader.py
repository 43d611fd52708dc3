"""Happenings of lives that are read from the statements themselves."""

from wokenlives.acting import Actor, Answers, happening_alone
from wokenlives.blocks import numbered
from wokenlives.scopes import ASKING_WORDS
from wokenlives.values import is_true, truth


class Reader(Actor):
    """A life that goes from statement to statement."""

    def __init__(self, program, life, own, moment, answerer):
        super().__init__(program, life, own, moment, answerer)
        self.scope = None
        # The number of the statement that comes next, or None where the body ends.
        self.ahead = None

    def resume(self):
        """Find the statement that comes next in the innermost frame."""
        frame = self.frames[-1]
        self.scope = self.program.scopes[(self.own_class, frame.body)]
        self.ahead = self.scope.follower(frame.at)

    def step(self):
        """Do the statement that comes next, or end the frame behind the last one."""
        if self.ahead is None:
            self.leave_frame()
            return
        self.count_one()
        number = self.ahead
        statement = self.scope.statements[number - 1]
        self.ahead = self.scope.follower(number)
        do_statement = STATEMENTS[statement[0]]
        do_statement(self, statement, number)

    def worths(self, exprs):
        """The values of expressions from left to right."""
        return tuple([self.worth(expr) for expr in exprs])

    def worth(self, expr):
        """The value of an expression."""
        word = expr[0]
        if word == "number":
            return expr[1]
        if word == "none":
            return None
        if word == "now":
            return self.moment[0]
        if word == "me":
            return self.life
        if word == "name":
            return self.worth_of_name(expr[1])
        if word == "mark":
            return self.look_at_mark(self.worth(expr[1]), expr[2])
        if word in ASKING_WORDS:
            return self.ask(expr[1], word, ())
        if word == "stand":
            return self.stand_of(self.worth(expr[1]))
        if word == "neg":
            return self.negative(self.worth(expr[1]))
        if word == "not":
            return truth(not is_true(self.worth(expr[1])))
        if word in ("and", "or"):
            return self.worth_of_choice(expr)
        left = self.worth(expr[1])
        return self.combined(word, left, self.worth(expr[2]))

    def worth_of_name(self, name):
        """The value of a name that stands alone."""
        row = self.scope.name_row(name)
        if row[0] == "argument":
            return self.frames[-1].arguments[row[1]]
        if row[0] == "own":
            return self.fields[row[1]]
        if row[0] == "look":
            return self.look(name)
        return name

    def worth_of_choice(self, expr):
        """The value of `and` or `or`, whose right part is not asked for if the left part decides."""
        word, left, right = expr
        holds = is_true(self.worth(left))
        if holds == (word == "or"):
            return truth(holds)
        return truth(is_true(self.worth(right)))

    def store(self, target, value):
        """Store a value in a target, whose holder is only evaluated now."""
        if target[0] == "mark":
            self.set_mark(self.worth(target[1]), target[2], value)
            return
        row = self.scope.name_row(target[1])
        if row[0] == "argument":
            self.set_argument(row[1], value)
        elif row[0] == "own":
            self.set_field(row[1], value)
        else:
            self.set_cell(target[1], value)

    def enter(self, block, first):
        """Go into a block whose first statement has this number."""
        if block != ():
            self.ahead = first


def read_set(reader, statement, number):
    """set"""
    reader.store(statement[1], reader.worth(statement[2]))


def read_tell(reader, statement, number):
    """tell"""
    reader.tell(statement[1], reader.worths(statement[2]))


def read_if(reader, statement, number):
    """if"""
    _, expr, block, other = statement
    if is_true(reader.worth(expr)):
        reader.enter(block, number + 1)
    else:
        reader.enter(other, number + 1 + len(numbered(block)))


def read_while(reader, statement, number):
    """while"""
    _, expr, block = statement
    if is_true(reader.worth(expr)):
        # The test comes again, at once if there is nothing else to do.
        reader.ahead = number
        reader.enter(block, number + 1)


def read_do(reader, statement, number):
    """do"""
    reader.call(statement[1], reader.worths(statement[2]), number)


def read_hold(reader, statement, number):
    """hold"""
    reader.hold(reader.worth(statement[1]), number)


def read_sleep(reader, statement, number):
    """sleep"""
    reader.sleep(number)


def read_wake(reader, statement, number):
    """wake"""
    value = reader.worth(statement[1])
    if statement[2] is None:
        reader.wake(value)
    else:
        reader.wake_after(value, reader.worth(statement[2]))


def read_stop(reader, statement, number):
    """stop"""
    reader.stop(reader.worth(statement[1]))


def read_seize(reader, statement, number):
    """seize"""
    reader.seize(statement[1], reader.worth(statement[2]), number)


def read_free(reader, statement, number):
    """free"""
    reader.free(statement[1], reader.worth(statement[2]))


def read_wait(reader, statement, number):
    """wait"""
    reader.wait(statement[1], number)


def read_open(reader, statement, number):
    """open"""
    reader.open_gate(statement[1])


def read_shut(reader, statement, number):
    """shut"""
    reader.shut_gate(statement[1])


def read_put(reader, statement, number):
    """put"""
    reader.put(statement[1], reader.worth(statement[2]))


def read_take(reader, statement, number):
    """take"""
    reader.store(statement[1], reader.take(statement[2]))


def read_make(reader, statement, number):
    """make"""
    _, target, name, exprs = statement
    reader.store(target, reader.make(name, reader.worths(exprs)))


def read_leave(reader, statement, number):
    """leave"""
    reader.leave_frame()


STATEMENTS = {
    "set": read_set,
    "tell": read_tell,
    "if": read_if,
    "while": read_while,
    "do": read_do,
    "hold": read_hold,
    "sleep": read_sleep,
    "wake": read_wake,
    "stop": read_stop,
    "seize": read_seize,
    "free": read_free,
    "wait": read_wait,
    "open": read_open,
    "shut": read_shut,
    "put": read_put,
    "take": read_take,
    "make": read_make,
    "leave": read_leave,
}


def read_alone(program, life, own, moment, answers):
    """(askings, outcome, own part) of a happening that takes its answers from a list."""
    return happening_alone(Reader(program, life, own, moment, Answers(answers)))
