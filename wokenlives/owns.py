"""The own parts of lives."""


def first_own(flat, values):
    """The first own part of a life of a flat class with these arguments."""
    starts = tuple([member[2] for member in flat[4] if member[0] == "var"])
    return (flat[1], tuple(values) + starts, (("life", 0, ()),), (), None, 0)
