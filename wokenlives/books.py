"""The books of things: the touches of one thing in order."""

from wokenlives.errors import BadBook, BadDeed
from wokenlives.things import touch


def ordered_rows(rows):
    """The rows of the book of one thing in their order, if they are given as the touches were made."""
    return sorted(rows, key=book_place)


def book_place(row):
    """What the rows of a book are ordered by; rows that are alike in this keep their order."""
    number, mode, life = row[:3]
    if mode == "change":
        return (number, 0, "")
    return (number, 1, life)


def replay_rows(kind, state, rows):
    """The state that an ordered book leads to from a state with the number 0."""
    number = 0
    for row in rows:
        told, mode, life, _, _, deed, arguments, answer = row
        try:
            made, state = touch("", kind, state, number, life, deed, arguments)
        except BadDeed:
            raise BadBook(told) from None
        number = made[1]
        if (told, mode, answer) != (number, made[2], made[5]):
            raise BadBook(told)
    return state
