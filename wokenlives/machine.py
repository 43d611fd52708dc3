"""Happenings of lives that are run from compiled rows with a stack of values."""

from wokenlives.acting import Actor, Answers, happening_alone
from wokenlives.values import is_true, truth


class Machine(Actor):
    """A life that goes from row to row."""

    def __init__(self, program, life, own, moment, answerer):
        super().__init__(program, life, own, moment, answerer)
        self.stack = []
        self.rows = ()
        self.at = 0

    def resume(self):
        """Find the row that comes next in the innermost frame."""
        frame = self.frames[-1]
        self.rows, behind = self.program.compiled[(self.own_class, frame.body)]
        self.at = 0
        if frame.at > 0:
            self.at = behind[frame.at - 1]

    def step(self):
        """Do the row that comes next."""
        row = self.rows[self.at]
        self.at += 1
        do_row = ROWS[row[0]]
        do_row(self, row)

    def push(self, value):
        """Put a value on the stack."""
        self.stack.append(value)

    def pull(self):
        """Take the top value away."""
        return self.stack.pop()

    def pull_many(self, many):
        """Take so many values away; the tuple of them, the one pushed first in front."""
        at = len(self.stack) - many
        values = tuple(self.stack[at:])
        del self.stack[at:]
        return values


def do_count(machine, row):
    """count"""
    machine.count_one()


def do_value(machine, row):
    """value and name"""
    machine.push(row[1])


def do_me(machine, row):
    """me"""
    machine.push(machine.life)


def do_now(machine, row):
    """now"""
    machine.push(machine.moment[0])


def do_argument(machine, row):
    """argument"""
    frame = machine.frames[-1]
    machine.push(frame.arguments[row[1]])


def do_own(machine, row):
    """own"""
    machine.push(machine.fields[row[1]])


def do_look(machine, row):
    """look"""
    machine.push(machine.look(row[1]))


def do_mark(machine, row):
    """mark"""
    machine.push(machine.look_at_mark(machine.pull(), row[1]))


def do_ask(machine, row):
    """ask"""
    machine.push(machine.ask(row[2], row[1], ()))


def do_stand(machine, row):
    """stand"""
    machine.push(machine.stand_of(machine.pull()))


def do_neg(machine, row):
    """neg"""
    machine.push(machine.negative(machine.pull()))


def do_not(machine, row):
    """not"""
    machine.push(truth(not is_true(machine.pull())))


def do_truth(machine, row):
    """truth"""
    machine.push(truth(is_true(machine.pull())))


def do_op(machine, row):
    """op"""
    left, right = machine.pull_many(2)
    machine.push(machine.combined(row[1], left, right))


def do_false(machine, row):
    """false"""
    if not is_true(machine.pull()):
        machine.push(0)
        machine.at = row[1]


def do_true(machine, row):
    """true"""
    if is_true(machine.pull()):
        machine.push(1)
        machine.at = row[1]


def do_jump(machine, row):
    """jump"""
    machine.at = row[1]


def do_unless(machine, row):
    """unless"""
    if not is_true(machine.pull()):
        machine.at = row[1]


def do_setargument(machine, row):
    """setargument"""
    machine.set_argument(row[1], machine.pull())


def do_setown(machine, row):
    """setown"""
    machine.set_field(row[1], machine.pull())


def do_set(machine, row):
    """set"""
    machine.set_cell(row[1], machine.pull())


def do_setmark(machine, row):
    """setmark"""
    value, holder = machine.pull_many(2)
    machine.set_mark(holder, row[1], value)


def do_tell(machine, row):
    """tell"""
    machine.tell(row[1], machine.pull_many(row[2]))


def do_call(machine, row):
    """call"""
    _, deed, many, number = row
    machine.call(deed, machine.pull_many(many), number)


def do_hold(machine, row):
    """hold"""
    machine.hold(machine.pull(), row[1])


def do_sleep(machine, row):
    """sleep"""
    machine.sleep(row[1])


def do_wake(machine, row):
    """wake"""
    machine.wake(machine.pull())


def do_wakeafter(machine, row):
    """wakeafter"""
    value, delay = machine.pull_many(2)
    machine.wake_after(value, delay)


def do_stop(machine, row):
    """stop"""
    machine.stop(machine.pull())


def do_seize(machine, row):
    """seize"""
    machine.seize(row[1], machine.pull(), row[2])


def do_free(machine, row):
    """free"""
    machine.free(row[1], machine.pull())


def do_wait(machine, row):
    """wait"""
    machine.wait(row[1], row[2])


def do_open(machine, row):
    """open"""
    machine.open_gate(row[1])


def do_shut(machine, row):
    """shut"""
    machine.shut_gate(row[1])


def do_put(machine, row):
    """put"""
    machine.put(row[1], machine.pull())


def do_take(machine, row):
    """take"""
    machine.push(machine.take(row[1]))


def do_make(machine, row):
    """make"""
    machine.push(machine.make(row[1], machine.pull_many(row[2])))


def do_leave(machine, row):
    """leave and end"""
    machine.leave_frame()


ROWS = {
    "count": do_count,
    "value": do_value,
    "name": do_value,
    "me": do_me,
    "now": do_now,
    "argument": do_argument,
    "own": do_own,
    "look": do_look,
    "mark": do_mark,
    "ask": do_ask,
    "stand": do_stand,
    "neg": do_neg,
    "not": do_not,
    "truth": do_truth,
    "op": do_op,
    "false": do_false,
    "true": do_true,
    "jump": do_jump,
    "unless": do_unless,
    "setargument": do_setargument,
    "setown": do_setown,
    "set": do_set,
    "setmark": do_setmark,
    "tell": do_tell,
    "call": do_call,
    "hold": do_hold,
    "sleep": do_sleep,
    "wake": do_wake,
    "wakeafter": do_wakeafter,
    "stop": do_stop,
    "seize": do_seize,
    "free": do_free,
    "wait": do_wait,
    "open": do_open,
    "shut": do_shut,
    "put": do_put,
    "take": do_take,
    "make": do_make,
    "leave": do_leave,
    "end": do_leave,
}


def run_alone(program, life, own, moment, answers):
    """As the reader's happening alone, made from compiled rows."""
    return happening_alone(Machine(program, life, own, moment, Answers(answers)))
