"""Why the lives of a quiet world that wait for units go on waiting."""


def standstill(world):
    """The list of (chain, end) of all lives that wait at a store in a quiet world."""
    if world.coming() is not None:
        return []
    return [chain_from(world, life) for life in world.lives() if waits_at(world, life, "store")]


def waits_at(world, life, kind):
    """Whether a life waits at a thing of this kind."""
    stand = world.state(life)
    return stand[0] == "waits" and world.program.kinds[stand[1]] == kind


def chain_from(world, life):
    """The chain of a life that waits at a store, and why it ends."""
    chain = [life]
    while waits_at(world, life, "store"):
        store = world.state(life)[1]
        life = min([holder for holder, _ in world.state(store)[2]])
        if life in chain:
            return tuple(chain), "ring"
        chain.append(life)
    if waits_at(world, life, "gate"):
        return tuple(chain), "gate"
    return tuple(chain), "sleeper"
