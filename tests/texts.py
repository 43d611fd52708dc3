"""Texts that several tests use."""


def life_text(body):
    """A class with this body of its life."""
    return "class c() { life { " + body + " } }"


def deed_text(body):
    """A class with this body of a deed."""
    return "class c() { deed d() { " + body + " } }"


def nested(depth, inside):
    """Blocks of while inside one another, the innermost one of this depth if the outermost stands in a life."""
    for _ in range(depth - 1):
        inside = "while 1 { " + inside + " }"
    return inside


def refusal(call, *arguments):
    """The class name and the fields of the error that a call raises, or None."""
    try:
        call(*arguments)
    except ValueError as error:
        return (error.__class__.__name__,) + tuple(vars(error).values())
    return None
