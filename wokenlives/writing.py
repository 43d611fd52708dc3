"""The written forms of trees and expressions."""

from wokenlives.ranks import FRONT, HIGHEST, NOT, OPERATORS, left_rank, right_rank

STEP = "  "


def write_tree(tree):
    """The written form of a tree."""
    rows = []
    for part in tree:
        if part[0] == "class":
            rows.extend(class_rows(part))
        else:
            rows.append(write_item(part))
    return "".join([f"{row}\n" for row in rows])


def write_expression(expr):
    """The written form of an expression."""
    return write_part(expr, 0)


def write_part(expr, asked):
    """The written form of an expression at a place that asks this rank."""
    text = write_bare(expr)
    if rank_of(expr) < asked:
        return f"({text})"
    return text


def rank_of(expr):
    """The rank of an expression."""
    word = expr[0]
    if word == "not":
        return NOT
    if word == "neg":
        return FRONT
    return OPERATORS.get(word, HIGHEST)


def write_bare(expr):
    """The written form of an expression without parentheses around it."""
    word = expr[0]
    if word in OPERATORS:
        rank = OPERATORS[word]
        left = write_part(expr[1], left_rank(rank))
        right = write_part(expr[2], right_rank(rank))
        return f"{left} {word} {right}"
    if word == "not":
        return f"not {write_part(expr[1], NOT)}"
    if word == "neg":
        return f"-{write_part(expr[1], FRONT)}"
    if word == "stand":
        return f"stand({write_part(expr[1], 0)})"
    return write_simple(expr)


def write_simple(expr):
    """The written form of an expression, target or holder that contains no other expression."""
    word = expr[0]
    if word == "number":
        return str(expr[1])
    if word == "name":
        return expr[1]
    if word == "mark":
        return f"{write_simple(expr[1])}.{expr[2]}"
    if word in ("none", "now", "me"):
        return word
    return f"{word}({expr[1]})"


def write_item(part):
    """The row of an item that is no class."""
    word = part[0]
    name = part[1]
    if word == "line":
        return f"line {name};"
    if word == "gate":
        return f"gate {name} {part[2]};"
    if word == "start":
        return f"start {name} = {part[2]}{write_numbers(part[3])} {write_when(part[4])};"
    return f"{word} {name} = {part[2]};"


def in_parentheses(words):
    """Words with commas between them, in parentheses."""
    return "(" + ", ".join(words) + ")"


def write_numbers(numbers):
    """Numbers in parentheses."""
    return in_parentheses([str(number) for number in numbers])


def write_when(when):
    """The words that tell when a start is due."""
    if when is None:
        return "asleep"
    return f"at {when}"


def class_rows(part):
    """The rows of a class."""
    _, name, parameters, outer, members = part
    within = "" if outer is None else f" within {outer}"
    rows = [f"class {name}{in_parentheses(parameters)}{within} {{"]
    for member in members:
        rows.extend(member_rows(member, STEP))
    rows.append("}")
    return rows


def member_rows(member, space):
    """The rows of a member, each with this space in front."""
    if member[0] == "var":
        return [f"{space}var {member[1]} = {member[2]};"]
    head = "life"
    if member[0] == "deed":
        head = f"deed {member[1]}{in_parentheses(member[2])}"
    return [f"{space}{head} {{"] + block_rows(member[-1], space) + [f"{space}}}"]


def block_rows(block, space):
    """The rows of the statements of a block that a row with this space in front opens."""
    rows = []
    for statement in block:
        rows.extend(statement_rows(statement, space + STEP))
    return rows


def statement_rows(statement, space):
    """The rows of a statement, each with this space in front."""
    word = statement[0]
    if word not in ("if", "while"):
        return [f"{space}{write_statement(statement)};"]
    rows = [f"{space}{word} {write_expression(statement[1])} {{"]
    rows.extend(block_rows(statement[2], space))
    if word == "if" and statement[3] != ():
        rows.append(f"{space}}} else {{")
        rows.extend(block_rows(statement[3], space))
    rows.append(f"{space}}}")
    return rows


def write_statement(statement):
    """A statement of one row, without the semicolon."""
    word = statement[0]
    write = WRITERS.get(word)
    if write is None:
        return word
    return f"{word} {write(statement)}"


def write_list(exprs):
    """Expressions in parentheses."""
    return in_parentheses([write_expression(expr) for expr in exprs])


def write_set(statement):
    """What stands behind `set`."""
    return f"{write_simple(statement[1])} = {write_expression(statement[2])}"


def write_call(statement):
    """What stands behind `tell` and `do`."""
    return f"{statement[1]}{write_list(statement[2])}"


def write_single(statement):
    """What stands behind `hold` and `stop`."""
    return write_expression(statement[1])


def write_wake(statement):
    """What stands behind `wake`."""
    text = write_expression(statement[1])
    if statement[2] is None:
        return text
    return f"{text} after {write_expression(statement[2])}"


def write_units(statement):
    """What stands behind `seize` and `free`."""
    return f"{write_expression(statement[2])} of {statement[1]}"


def write_gated(statement):
    """What stands behind `wait`, `open` and `shut`."""
    return statement[1]


def write_put(statement):
    """What stands behind `put`."""
    return f"{write_expression(statement[2])} into {statement[1]}"


def write_take(statement):
    """What stands behind `take`."""
    return f"{write_simple(statement[1])} from {statement[2]}"


def write_make(statement):
    """What stands behind `make`."""
    return f"{write_simple(statement[1])} = {statement[2]}{write_list(statement[3])}"


WRITERS = {
    "set": write_set,
    "tell": write_call,
    "do": write_call,
    "hold": write_single,
    "stop": write_single,
    "wake": write_wake,
    "seize": write_units,
    "free": write_units,
    "wait": write_gated,
    "open": write_gated,
    "shut": write_gated,
    "put": write_put,
    "take": write_take,
    "make": write_make,
}
