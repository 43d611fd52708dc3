"""Reading of whole texts: their trees, their endings and their name rows."""

from wokenlives.cursor import Cursor
from wokenlives.expressions import read_list
from wokenlives.statements import read_block
from wokenlives.tokens import token_list


def read_tree(text):
    """The tree of a text."""
    return tree_and_rows(text)[0]


def name_rows(text):
    """The list of the name rows of a text."""
    return tree_and_rows(text)[1]


def tree_and_rows(text):
    """The tree and the name rows of a text, read on one way."""
    cursor = Cursor(token_list(text), False)
    tree = read_items(cursor)
    return tree, cursor.rows


def ending(text):
    """The tokens that complete a text, with one space between them."""
    cursor = Cursor(token_list(text), True)
    read_items(cursor)
    return " ".join(cursor.added)


def read_items(cursor):
    """All items up to the end."""
    found = []
    while cursor.word() != "":
        found.append(read_item(cursor))
    return tuple(found)


def read_item(cursor):
    """The item that begins with the word that comes next."""
    word = cursor.word()
    if word not in ITEMS:
        cursor.refuse()
    cursor.step()
    read_rest = ITEMS[word]
    found = read_rest(cursor, word)
    if word != "class":
        cursor.need(";")
    return found


def read_signed(cursor):
    """A number, perhaps with a sign in front."""
    if cursor.takes("-"):
        return -cursor.need_number()
    return cursor.need_number()


def read_signed_item(cursor, word):
    """What stands behind `cell`, `mark` and `var`."""
    name = cursor.need_name(word)
    cursor.need("=")
    return (word, name, read_signed(cursor))


def read_line(cursor, word):
    """What stands behind `line`."""
    return (word, cursor.need_name(word))


def read_sized_item(cursor, word):
    """What stands behind `store` and `wheel`."""
    name = cursor.need_name(word)
    cursor.need("=")
    return (word, name, cursor.need_size())


def read_gate(cursor, word):
    """What stands behind `gate`."""
    name = cursor.need_name(word)
    if cursor.takes("shut"):
        return (word, name, "shut")
    cursor.need("open")
    return (word, name, "open")


def read_start(cursor, word):
    """What stands behind `start`."""
    name = cursor.need_name(word)
    cursor.need("=")
    at = len(cursor.rows)
    made = cursor.need_name("made")
    numbers = read_list(cursor, read_signed)
    cursor.recount(at, len(numbers))
    return (word, name, made, numbers, read_when(cursor))


def read_when(cursor):
    """The time at which a start is due, or None if it is asleep."""
    if cursor.takes("asleep"):
        return None
    if cursor.takes("at"):
        return cursor.need_number()
    return 0


def read_class(cursor, word):
    """What stands behind `class`."""
    # The row of the class's own name already stands in the class.
    cursor.owner = cursor.word()
    at = len(cursor.rows)
    name = cursor.need_name(word)
    parameters = read_list(cursor, read_parameter)
    cursor.recount(at, len(parameters))
    outer = None
    if cursor.takes("within"):
        outer = cursor.need_name("outer")
    members = read_members(cursor)
    cursor.owner = ""
    return (word, name, parameters, outer, members)


def read_parameter(cursor):
    """A parameter of a class."""
    return cursor.need_name("param")


def read_argument(cursor):
    """An argument of a deed."""
    return cursor.need_name("argument")


def read_members(cursor):
    """The members of a class in braces."""
    found = []
    lives = 0
    cursor.need("{")
    while cursor.word() in MEMBERS:
        if cursor.word() == "life":
            if lives > 0:
                cursor.refuse()
            lives += 1
        found.append(read_member(cursor))
    cursor.need("}")
    return tuple(found)


def read_member(cursor):
    """The member that begins with the word that comes next."""
    word = cursor.word()
    cursor.step()
    read_rest = MEMBERS[word]
    return read_rest(cursor, word)


def read_var(cursor, word):
    """var"""
    found = read_signed_item(cursor, word)
    cursor.need(";")
    return found


def read_deed(cursor, word):
    """deed"""
    at = len(cursor.rows)
    name = cursor.need_name(word)
    cursor.deed = name
    arguments = read_list(cursor, read_argument)
    cursor.recount(at, len(arguments))
    block = read_block(cursor)
    cursor.deed = ""
    return (word, name, arguments, block)


def read_life(cursor, word):
    """life"""
    cursor.inner_fits = True
    block = read_block(cursor)
    cursor.inner_fits = False
    return (word, block)


ITEMS = {
    "cell": read_signed_item,
    "line": read_line,
    "store": read_sized_item,
    "gate": read_gate,
    "wheel": read_sized_item,
    "mark": read_signed_item,
    "class": read_class,
    "start": read_start,
}

MEMBERS = {
    "var": read_var,
    "deed": read_deed,
    "life": read_life,
}
