"""How strongly operators bind, for reading and for writing."""

COMPARED = 4
SUM = 5
FRONT = 7
HIGHEST = 8

OPERATORS = {
    "or": 1,
    "and": 2,
    "==": 4,
    "!=": 4,
    "<": 4,
    "<=": 4,
    ">": 4,
    ">=": 4,
    "+": 5,
    "-": 5,
    "*": 6,
    "/": 6,
    "mod": 6,
}

NOT = 3


def left_rank(rank):
    """The rank that an operator of this rank asks of its left part."""
    if rank == COMPARED:
        return SUM
    return rank


def right_rank(rank):
    """The rank that an operator of this rank asks of its right part."""
    return rank + 1
