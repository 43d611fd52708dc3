"""The bodies of flat classes: their statements by number, and what their names stand for."""

from wokenlives.blocks import all_behind, numbered
from wokenlives.flats import bodies

# The words that ask a thing in an expression.
ASKING_WORDS = ("length", "first", "spare", "waiting", "isopen")


class Scope:
    """One body of a flat class in a program with items of these kinds."""

    def __init__(self, kinds, flat, body):
        self.kinds = kinds
        self.block = bodies(flat)[body]
        self.statements = numbered(self.block)
        self.followers = all_behind(self.block, 1, None)
        self.arguments = arguments_of(flat, body)
        self.fields = field_names(flat)

    def follower(self, number):
        """The number of the statement behind this one, of the first one for 0, or None where the body ends."""
        if number > 0:
            return self.followers[number - 1]
        if self.statements == []:
            return None
        return 1

    def name_row(self, name):
        """The compiled row of a name in an expression."""
        if name in self.arguments:
            return ("argument", self.arguments.index(name))
        if name in self.fields:
            return ("own", self.fields.index(name))
        if self.kinds[name] == "cell":
            return ("look", name)
        return ("name", name)


def arguments_of(flat, body):
    """The names of the arguments of a body, none for the life."""
    for member in flat[4]:
        if member[0] == "deed" and member[1] == body:
            return member[2]
    return ()


def field_names(flat):
    """The names of the own fields of a flat class in their order."""
    return flat[2] + tuple([member[1] for member in flat[4] if member[0] == "var"])


def all_scopes(kinds, flats):
    """A dict from the names of a class and of one of its bodies to the scope of this body."""
    found = {}
    for name, flat in flats.items():
        for body in bodies(flat):
            found[(name, body)] = Scope(kinds, flat, body)
    return found
