"""The heights of compiled rows: how many values are on the stack before each one."""

from wokenlives.errors import BadRows

# How many values a row pops or looks at, and how many it leaves in their place; `tell`, `call` and `make` say it
# themselves.
EFFECTS = {
    "count": (0, 0),
    "value": (0, 1),
    "me": (0, 1),
    "now": (0, 1),
    "name": (0, 1),
    "argument": (0, 1),
    "own": (0, 1),
    "look": (0, 1),
    "mark": (1, 1),
    "ask": (0, 1),
    "stand": (1, 1),
    "neg": (1, 1),
    "not": (1, 1),
    "truth": (1, 1),
    "op": (2, 1),
    "false": (1, 0),
    "true": (1, 0),
    "jump": (0, 0),
    "unless": (1, 0),
    "setargument": (1, 0),
    "setown": (1, 0),
    "set": (1, 0),
    "setmark": (2, 0),
    "hold": (1, 0),
    "sleep": (0, 0),
    "wake": (1, 0),
    "wakeafter": (2, 0),
    "stop": (1, 0),
    "seize": (1, 0),
    "free": (1, 0),
    "wait": (0, 0),
    "open": (0, 0),
    "shut": (0, 0),
    "put": (1, 0),
    "take": (0, 1),
    "leave": (0, 0),
    "end": (0, 0),
}

BARE_ROWS = ("count", "leave", "end")


def row_heights(rows):
    """The tuple of the heights of the rows; None for a row that no row leads to."""
    heights = [None] * len(rows)
    pending = []
    if len(rows) > 0:
        heights[0] = 0
        pending.append(0)
    while pending != []:
        at = min(pending)
        pending.remove(at)
        check_row(rows[at], at, heights[at])
        for follower, height in followers_of(rows[at], at, heights[at]):
            if follower < 0 or follower >= len(rows):
                raise BadRows(at)
            if heights[follower] is None:
                heights[follower] = height
                pending.append(follower)
            elif heights[follower] != height:
                raise BadRows(follower)
    return tuple(heights)


def effect_of(row):
    """How many values a row pops or looks at, and how many it leaves in their place."""
    word = row[0]
    if word in ("tell", "call"):
        return row[2], 0
    if word == "make":
        return row[2], 1
    return EFFECTS[word]


def check_row(row, at, height):
    """Refuse a row that pops more than there is, and one that asks for an empty stack that is not empty."""
    popped, _ = effect_of(row)
    if height < popped:
        raise BadRows(at)
    if row[0] in BARE_ROWS and height != 0:
        raise BadRows(at)


def followers_of(row, at, height):
    """The rows that can follow a row with the heights that it leaves there, in ascending order."""
    word = row[0]
    popped, pushed = effect_of(row)
    after = height - popped + pushed
    found = []
    if word not in ("jump", "leave", "end"):
        found.append((at + 1, after))
    if word in ("jump", "unless"):
        found.append((row[1], after))
    if word in ("false", "true"):
        # The value that decides stays on the stack where the row goes to.
        found.append((row[1], height))
    return sorted(found)
