"""Reading of blocks and statements.

Each function of the table reads what stands behind the first word of its statements.
"""

from wokenlives.expressions import read_list, read_target, read_whole


def read_block(cursor):
    """A block of statements in braces."""
    statements = []
    cursor.need("{")
    cursor.depth += 1
    while cursor.word() in STATEMENTS:
        statements.append(read_statement(cursor))
    cursor.depth -= 1
    cursor.need("}")
    return tuple(statements)


def read_statement(cursor):
    """The statement that begins with the word that comes next."""
    word = cursor.word()
    if word in ("if", "while"):
        cursor.check_depth()
    if word == "inner":
        check_inner(cursor)
    cursor.step()
    read_rest = STATEMENTS[word]
    statement = read_rest(cursor, word)
    if word not in ("if", "while"):
        cursor.need(";")
    return statement


def check_inner(cursor):
    """Refuse an inner place in a deed, and a second one in a life."""
    if not cursor.inner_fits:
        cursor.refuse()
    cursor.inner_fits = False


def read_bare(cursor, word):
    """What stands behind `sleep`, `leave` and `inner`."""
    return (word,)


def read_set(cursor, word):
    """What stands behind `set`."""
    target = read_target(cursor)
    cursor.need("=")
    return (word, target, read_whole(cursor))


def read_tell(cursor, word):
    """What stands behind `tell`."""
    name = cursor.need_name("word")
    return (word, name, read_list(cursor, read_whole))


def read_do(cursor, word):
    """What stands behind `do`."""
    name, exprs = read_call(cursor, "call")
    return (word, name, exprs)


def read_call(cursor, role):
    """A name of this role and its list of expressions, which are counted in the row of the name."""
    at = len(cursor.rows)
    name = cursor.need_name(role)
    exprs = read_list(cursor, read_whole)
    cursor.recount(at, len(exprs))
    return name, exprs


def read_if(cursor, word):
    """What stands behind `if`."""
    expr = read_whole(cursor)
    block = read_block(cursor)
    other = ()
    if cursor.takes("else"):
        other = read_block(cursor)
    return (word, expr, block, other)


def read_while(cursor, word):
    """What stands behind `while`."""
    expr = read_whole(cursor)
    return (word, expr, read_block(cursor))


def read_single(cursor, word):
    """What stands behind `hold` and `stop`."""
    return (word, read_whole(cursor))


def read_wake(cursor, word):
    """What stands behind `wake`."""
    expr = read_whole(cursor)
    after = None
    if cursor.takes("after"):
        after = read_whole(cursor)
    return (word, expr, after)


def read_units(cursor, word):
    """What stands behind `seize` and `free`."""
    expr = read_whole(cursor)
    cursor.need("of")
    return (word, cursor.need_name("stored"), expr)


def read_gated(cursor, word):
    """What stands behind `wait`, `open` and `shut`."""
    return (word, cursor.need_name("gated"))


def read_put(cursor, word):
    """What stands behind `put`."""
    expr = read_whole(cursor)
    cursor.need("into")
    return (word, cursor.need_name("lined"), expr)


def read_take(cursor, word):
    """What stands behind `take`."""
    target = read_target(cursor)
    cursor.need("from")
    return (word, target, cursor.need_name("source"))


def read_make(cursor, word):
    """What stands behind `make`."""
    target = read_target(cursor)
    cursor.need("=")
    name, exprs = read_call(cursor, "made")
    return (word, target, name, exprs)


STATEMENTS = {
    "set": read_set,
    "tell": read_tell,
    "if": read_if,
    "while": read_while,
    "do": read_do,
    "inner": read_bare,
    "hold": read_single,
    "sleep": read_bare,
    "wake": read_wake,
    "stop": read_single,
    "seize": read_units,
    "free": read_units,
    "wait": read_gated,
    "open": read_gated,
    "shut": read_gated,
    "put": read_put,
    "take": read_take,
    "make": read_make,
    "leave": read_bare,
}
