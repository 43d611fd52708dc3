"""Blocks of statements: their inner places, their numbers and what stands behind a statement."""


def inner_blocks(statement):
    """The blocks of a statement in their order."""
    if statement[0] == "if":
        return (statement[2], statement[3])
    if statement[0] == "while":
        return (statement[2],)
    return ()


def has_inner(block):
    """Whether the statement `inner` stands in a block or inside one of its statements."""
    for statement in numbered(block):
        if statement[0] == "inner":
            return True
    return False


def with_inner(block):
    """The block itself if it has an inner place, otherwise the block with one at its end."""
    if has_inner(block):
        return block
    return block + (("inner",),)


def fill(block, other):
    """The block with the statements of another one in its inner place."""
    if not has_inner(block):
        return block
    found = []
    for statement in block:
        if statement[0] == "inner":
            found.extend(other)
        else:
            found.append(fill_statement(statement, other))
    return tuple(found)


def fill_statement(statement, other):
    """A statement with another block in the inner place of its blocks."""
    blocks = inner_blocks(statement)
    if blocks == ():
        return statement
    return statement[:2] + tuple([fill(block, other) for block in blocks])


def numbered(block):
    """The list of the statements of a block in the order of their numbers."""
    found = []
    for statement in block:
        found.append(statement)
        for part in inner_blocks(statement):
            found.extend(numbered(part))
    return found


def behind(block, number):
    """The number of the statement behind the one with this number, or None at the end of the block."""
    return all_behind(block, 1, None)[number - 1]


def all_behind(block, first, follower):
    """For each number from the first one on, the number of the statement behind.

    The follower is what stands behind the last statement of the block.
    """
    found = []
    for at, statement in enumerate(block):
        own = first + len(found)
        after = own + len(numbered((statement,)))
        if at == len(block) - 1:
            after = follower
        found.append(after)
        # Behind the block of a while its test comes again.
        back = own if statement[0] == "while" else after
        for part in inner_blocks(statement):
            found.extend(all_behind(part, first + len(found), back))
    return found


def depth_of(block):
    """1, and 1 more for each block inside of the other one."""
    depth = 1
    for statement in block:
        for part in inner_blocks(statement):
            depth = max(depth, 1 + depth_of(part))
    return depth
