"""As what names are visible, and whether the names of a text are right."""

from wokenlives.blocks import depth_of, numbered
from wokenlives.errors import DoubleName, RingOfClasses, TooLarge, UnknownName, WrongCount, WrongKind
from wokenlives.flats import class_items, flat_life

ITEM_ROLES = ("cell", "line", "store", "gate", "wheel", "mark", "class", "start")
MEMBER_ROLES = ("param", "var", "deed")

# As what a name must be visible where it is used; a name behind `tell` is free.
ASKED = {
    "value": ("argument", "param", "var", "cell", "start"),
    "holder": ("argument", "param", "var", "cell", "start"),
    "target": ("argument", "param", "var", "cell"),
    "field": ("mark",),
    "call": ("deed",),
    "stored": ("store",),
    "gated": ("gate",),
    "lined": ("line",),
    "source": ("line", "wheel"),
    "crowd": ("store", "gate"),
    "outer": ("class",),
    "made": ("class",),
}

LONGEST_CHAIN = 6
MOST_STATEMENTS = 120
DEEPEST = 8


class Names:
    """What the name rows of a text declare. Of several classes of one name the first one counts."""

    def __init__(self, rows):
        self.kinds = {}
        self.outers = {}
        self.members = {}
        self.arguments = {}
        self.params = {}
        left_out = False
        for row in rows:
            if row[0] in ITEM_ROLES:
                left_out = row[0] == "class" and row[1] in self.members
            if not left_out:
                self.add_row(row)

    def add_row(self, row):
        """Keep what one row declares."""
        role, name, owner, deed, number, _, _ = row
        if role in ITEM_ROLES:
            self.kinds.setdefault(name, role)
        if role == "class":
            self.members[name] = {}
            self.params[name] = number
        if role == "outer":
            self.outers[owner] = name
        if role in MEMBER_ROLES:
            self.members[owner].setdefault(name, []).append((role, number))
        if role == "argument":
            self.arguments[(owner, deed, name)] = True

    def chain(self, owner):
        """The list of the class names of the chain of a class."""
        found = []
        while owner in self.members and owner not in found:
            found.append(owner)
            owner = self.outers.get(owner)
        return found

    def comes_back(self, owner):
        """Whether going from outer class to outer class comes back to this class."""
        return self.outers.get(self.chain(owner)[-1]) == owner

    def sight(self, name, owner, deed):
        """The role as which a name is visible, or None."""
        if owner in self.members and (owner, deed, name) in self.arguments:
            return "argument"
        found = [self.members[part].get(name, []) for part in self.chain(owner)]
        for rows in found:
            for role, _ in rows:
                if role != "deed":
                    return role
        for rows in found:
            if rows != []:
                return "deed"
        return self.kinds.get(name)

    def deed_counts(self, name, owner):
        """The list of the counts of all deeds of this name in a chain, those of the class itself first."""
        found = []
        for part in self.chain(owner):
            for role, number in self.members[part].get(name, []):
                if role == "deed":
                    found.append(number)
        return found

    def made_count(self, name):
        """The number of the params of all classes of a chain."""
        return sum([self.params[part] for part in self.chain(name)])


def chain_of(rows, owner):
    """The list of the class names of the chain of a class; the empty list if no class has this name."""
    return Names(rows).chain(owner)


def visible(rows, name, owner, deed):
    """As what a name is visible, a declaring role, or None."""
    return Names(rows).sight(name, owner, deed)


def check_names(rows, tree):
    """Raise the first error of the names of a text, if there is one."""
    names = Names(rows)
    classes = class_items(tree)
    earlier = {}
    for row in rows:
        role, name, _, _, _, line, column = row
        if is_double(names, row, earlier):
            raise DoubleName(name, line, column)
        check_use(names, row)
        if is_miscounted(names, row):
            raise WrongCount(name, line, column)
        if role == "outer" and names.comes_back(row[2]):
            raise RingOfClasses(name, line, column)
        if role == "class" and is_too_large(names, tree, classes[name]):
            raise TooLarge(name, line, column)
        earlier[scope_of(row)] = True


def scope_of(row):
    """The name of a declaring row with the place in which it must be the only one of this name."""
    role, name, owner, deed = row[:4]
    if role in ITEM_ROLES:
        return ("item", name)
    if role in MEMBER_ROLES:
        return ("member", owner, name)
    if role == "argument":
        return ("argument", owner, deed, name)
    return ("use",)


def is_double(names, row, earlier):
    """Whether a row declares a name that something else has (rule 1)."""
    role, name, owner = row[:3]
    if role in ITEM_ROLES:
        return scope_of(row) in earlier
    if role not in MEMBER_ROLES and role != "argument":
        return False
    if name in names.kinds or scope_of(row) in earlier:
        return True
    for part in names.chain(owner):
        if role == "argument" or part != owner:
            for other, _ in names.members[part].get(name, []):
                if role != "deed" or other != "deed":
                    return True
    return False


def check_use(names, row):
    """Raise the error of a name that is used and not visible (rule 2), or not as it should be (rule 3)."""
    role, name, owner, deed, _, line, column = row
    if role not in ASKED:
        return
    if role in ("outer", "made"):
        found = names.kinds.get(name)
    else:
        found = names.sight(name, owner, deed)
    if found is None:
        raise UnknownName(name, line, column)
    if found not in ASKED[role]:
        raise WrongKind(name, line, column)


def is_miscounted(names, row):
    """Whether the count of a row is not the one that it should be (rule 4)."""
    role, name, owner, _, number = row[:5]
    if role == "call":
        return number != names.deed_counts(name, owner)[0]
    if role == "made":
        return number != names.made_count(name)
    if role == "deed":
        return any([number != other for other in names.deed_counts(name, owner)])
    return False


def is_too_large(names, tree, item):
    """Whether the chain, the flat life or a deed of a class is too large (rule 6)."""
    name = item[1]
    if len(names.chain(name)) > LONGEST_CHAIN:
        return True
    blocks = [flat_life(tree, name)]
    for member in item[4]:
        if member[0] == "deed":
            blocks.append(member[3])
    for block in blocks:
        if len(numbered(block)) > MOST_STATEMENTS or depth_of(block) > DEEPEST:
            return True
    return False
