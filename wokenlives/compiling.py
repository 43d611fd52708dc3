"""Bodies and expressions compiled into rows for the machine."""

from wokenlives.scopes import ASKING_WORDS

# What stores a value in a name, by the row that gives the name's value.
STORING = {"argument": "setargument", "own": "setown", "look": "set"}


class Code:
    """The rows of a body as far as it is compiled."""

    def __init__(self, scope):
        self.scope = scope
        self.rows = []
        # For each statement the row behind its last row, once it is known.
        self.behind = []

    def emit(self, row):
        """Add a row at the end."""
        self.rows.append(row)

    def add_open(self):
        """Add a row that is known later; its number."""
        self.rows.append(())
        return len(self.rows) - 1

    def add_expressions(self, exprs):
        """Add the rows of expressions in their order."""
        for expr in exprs:
            self.add_expression(expr)

    def add_expression(self, expr):
        """Add the rows of an expression."""
        word = expr[0]
        if word == "number":
            self.emit(("value", expr[1]))
        elif word == "none":
            self.emit(("value", None))
        elif word in ("me", "now"):
            self.emit((word,))
        elif word == "name":
            self.emit(self.scope.name_row(expr[1]))
        elif word == "mark":
            self.add_expression(expr[1])
            self.emit(("mark", expr[2]))
        elif word in ASKING_WORDS:
            self.emit(("ask", word, expr[1]))
        elif word in ("stand", "neg", "not"):
            self.add_expression(expr[1])
            self.emit((word,))
        elif word == "and":
            self.add_choice("false", expr)
        elif word == "or":
            self.add_choice("true", expr)
        else:
            self.add_expressions(expr[1:])
            self.emit(("op", word))

    def add_choice(self, word, expr):
        """Add the rows of `and` or `or`, whose right part is left out if the left part decides."""
        self.add_expression(expr[1])
        at = self.add_open()
        self.add_expression(expr[2])
        self.emit(("truth",))
        self.rows[at] = (word, len(self.rows))

    def add_storing(self, target):
        """Add the rows that store the value on the stack in a target."""
        if target[0] == "mark":
            self.add_expression(target[1])
            self.emit(("setmark", target[2]))
            return
        row = self.scope.name_row(target[1])
        self.emit((STORING[row[0]],) + row[1:])

    def add_block(self, block):
        """Add the rows of the statements of a block."""
        for statement in block:
            self.add_statement(statement)

    def add_statement(self, statement):
        """Add the rows of a statement and of all that stands inside."""
        self.behind.append(0)
        number = len(self.behind)
        self.emit(("count",))
        add_rest = STATEMENTS[statement[0]]
        add_rest(self, statement, number)
        self.behind[number - 1] = len(self.rows)


def add_set(code, statement, number):
    """The rows of `set`."""
    code.add_expression(statement[2])
    code.add_storing(statement[1])


def add_tell(code, statement, number):
    """The rows of `tell`."""
    code.add_expressions(statement[2])
    code.emit(("tell", statement[1], len(statement[2])))


def add_do(code, statement, number):
    """The rows of `do`."""
    code.add_expressions(statement[2])
    code.emit(("call", statement[1], len(statement[2]), number))


def add_if(code, statement, number):
    """The rows of `if`."""
    _, expr, block, other = statement
    code.add_expression(expr)
    at = code.add_open()
    code.add_block(block)
    if other == ():
        code.rows[at] = ("unless", len(code.rows))
        return
    leap = code.add_open()
    code.rows[at] = ("unless", len(code.rows))
    code.add_block(other)
    code.rows[leap] = ("jump", len(code.rows))


def add_while(code, statement, number):
    """The rows of `while`; the jump goes back to the row that counts the test."""
    _, expr, block = statement
    test = len(code.rows) - 1
    code.add_expression(expr)
    at = code.add_open()
    code.add_block(block)
    code.emit(("jump", test))
    code.rows[at] = ("unless", len(code.rows))


def add_hold(code, statement, number):
    """The rows of `hold`."""
    code.add_expression(statement[1])
    code.emit(("hold", number))


def add_sleep(code, statement, number):
    """The rows of `sleep`."""
    code.emit(("sleep", number))


def add_wake(code, statement, number):
    """The rows of `wake`."""
    code.add_expression(statement[1])
    if statement[2] is None:
        code.emit(("wake",))
    else:
        code.add_expression(statement[2])
        code.emit(("wakeafter",))


def add_stop(code, statement, number):
    """The rows of `stop`."""
    code.add_expression(statement[1])
    code.emit(("stop",))


def add_seize(code, statement, number):
    """The rows of `seize`."""
    code.add_expression(statement[2])
    code.emit(("seize", statement[1], number))


def add_free(code, statement, number):
    """The rows of `free`."""
    code.add_expression(statement[2])
    code.emit(("free", statement[1]))


def add_wait(code, statement, number):
    """The rows of `wait`."""
    code.emit(("wait", statement[1], number))


def add_bare(code, statement, number):
    """The rows of `open`, `shut` and `leave`, which are the statements themselves."""
    code.emit(statement)


def add_put(code, statement, number):
    """The rows of `put`."""
    code.add_expression(statement[2])
    code.emit(("put", statement[1]))


def add_take(code, statement, number):
    """The rows of `take`."""
    code.emit(("take", statement[2]))
    code.add_storing(statement[1])


def add_make(code, statement, number):
    """The rows of `make`."""
    _, target, made, exprs = statement
    code.add_expressions(exprs)
    code.emit(("make", made, len(exprs)))
    code.add_storing(target)


STATEMENTS = {
    "set": add_set,
    "tell": add_tell,
    "if": add_if,
    "while": add_while,
    "do": add_do,
    "hold": add_hold,
    "sleep": add_sleep,
    "wake": add_wake,
    "stop": add_stop,
    "seize": add_seize,
    "free": add_free,
    "wait": add_wait,
    "open": add_bare,
    "shut": add_bare,
    "put": add_put,
    "take": add_take,
    "make": add_make,
    "leave": add_bare,
}


def compile_expression(program, flat, body, expr):
    """The rows of an expression in a body of a flat class of the program."""
    code = Code(program.scopes[(flat[1], body)])
    code.add_expression(expr)
    return tuple(code.rows)


def compile_body(program, flat, body):
    """(rows, behind) of a body of a flat class of the program."""
    scope = program.scopes[(flat[1], body)]
    code = Code(scope)
    code.add_block(scope.block)
    code.emit(("end",))
    return tuple(code.rows), tuple(code.behind)
