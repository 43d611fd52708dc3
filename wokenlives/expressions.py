"""Reading of expressions, targets and lists."""

from wokenlives.ranks import COMPARED, FRONT, HIGHEST, NOT, OPERATORS, right_rank

ASKED_ROLES = {"length": "lined", "first": "lined", "spare": "stored", "waiting": "crowd", "isopen": "gated"}


def read_list(cursor, read_one):
    """A list in parentheses, perhaps empty, whose parts the given function reads."""
    found = []
    cursor.need("(")
    if cursor.word() not in (")", ""):
        found.append(read_one(cursor))
        while cursor.takes(","):
            found.append(read_one(cursor))
    cursor.need(")")
    return tuple(found)


def read_target(cursor):
    """A target of set, take or make."""
    if cursor.takes("me"):
        cursor.need(".")
        return ("mark", ("me",), cursor.need_name("field"))
    return read_named(cursor, "target")


def read_named(cursor, role):
    """A name, which has this role if it stands alone, or a name with a mark."""
    place = cursor.where()
    name = cursor.need_kind("name", "a")
    if cursor.takes("."):
        cursor.note("holder", name, place)
        return ("mark", ("name", name), cursor.need_name("field"))
    cursor.note(role, name, place)
    return ("name", name)


def read_whole(cursor):
    """A whole expression, whose marks of weight are counted from 0."""
    cursor.weight = 0
    return read_ranked(cursor, 1)


def read_ranked(cursor, lowest):
    """The longest expression at this place that needs no parentheses where this rank is asked."""
    left, highest = read_front(cursor, lowest)
    while cursor.word() in OPERATORS:
        sign = cursor.word()
        rank = OPERATORS[sign]
        if rank < lowest or rank > highest:
            return left
        cursor.weigh()
        cursor.step()
        left = (sign, left, read_ranked(cursor, right_rank(rank)))
        # One comparison is not part of another one without parentheses.
        highest = rank - 1 if rank == COMPARED else rank
    return left


def read_front(cursor, lowest):
    """An expression without operators of two sides, and the greatest rank of one that may follow."""
    if cursor.word() == "not" and lowest <= NOT:
        cursor.weigh()
        cursor.step()
        return ("not", read_ranked(cursor, NOT)), NOT
    if cursor.word() == "-":
        cursor.weigh()
        cursor.step()
        return ("neg", read_ranked(cursor, FRONT)), FRONT
    return read_primary(cursor), HIGHEST


def read_primary(cursor):
    """An expression that begins with none of the operators."""
    word = cursor.word()
    if word == "(":
        return read_parenthesis(cursor)
    if word == "stand":
        cursor.weigh()
        cursor.step()
        return ("stand", read_parted(cursor))
    if word in ASKED_ROLES:
        return read_asked(cursor)
    if word in ("none", "now"):
        cursor.step()
        return (word,)
    if word == "me":
        return read_me(cursor)
    if cursor.tokens[cursor.at][0] == "name":
        return read_named(cursor, "value")
    return ("number", cursor.need_number())


def read_parenthesis(cursor):
    """An expression in parentheses that is a primary."""
    cursor.weigh()
    return read_parted(cursor)


def read_parted(cursor):
    """An expression between parentheses, as a part of a whole one."""
    cursor.need("(")
    expr = read_ranked(cursor, 1)
    cursor.need(")")
    return expr


def read_asked(cursor):
    """One of the five words with the name of the thing that it asks."""
    word = cursor.word()
    cursor.step()
    cursor.need("(")
    name = cursor.need_name(ASKED_ROLES[word])
    cursor.need(")")
    return (word, name)


def read_me(cursor):
    """The life itself, or a mark of it."""
    cursor.step()
    if cursor.takes("."):
        return ("mark", ("me",), cursor.need_name("field"))
    return ("me",)
