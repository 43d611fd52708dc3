"""Classes put together with the classes that they stand within."""

from wokenlives.blocks import fill, with_inner


def class_items(tree):
    """A dict from each name of a class to its item; of several classes of one name the first one counts."""
    found = {}
    for item in tree:
        if item[0] == "class":
            found.setdefault(item[1], item)
    return found


def line_of(tree, name):
    """The list of the class names of the line of a class, the outermost one first."""
    classes = class_items(tree)
    chain = []
    # The names of the text may still be wrong, so the way may lead nowhere or come back.
    while name in classes and name not in chain:
        chain.append(name)
        name = classes[name][3]
    return chain[::-1]


def line_items(tree, name):
    """The list of the class items of the line of a class, the outermost one first."""
    classes = class_items(tree)
    return [classes[part] for part in line_of(tree, name)]


def flat_class(tree, name):
    """The flat class of a class."""
    line = line_items(tree, name)
    parameters = []
    variables = []
    deeds = {}
    for item in line:
        parameters.extend(item[2])
        for member in item[4]:
            if member[0] == "var":
                variables.append(member)
            if member[0] == "deed":
                deeds[member[1]] = member
    members = variables + list(deeds.values()) + [("life", joined_lives(line))]
    return ("class", name, tuple(parameters), None, tuple(members))


def flat_life(tree, name):
    """The flat life of a class."""
    return joined_lives(line_items(tree, name))


def joined_lives(line):
    """The life blocks of a line, each in the inner place of the one before."""
    block = (("inner",),)
    for item in line:
        block = fill(block, with_inner(life_block(item)))
    return fill(block, ())


def life_block(item):
    """The block of the member `life` of a class, or the empty block."""
    for member in item[4]:
        if member[0] == "life":
            return member[1]
    return ()


def flat_tree(tree):
    """The tree with each class replaced by its flat class."""
    found = []
    for item in tree:
        if item[0] == "class":
            found.append(flat_class(tree, item[1]))
        else:
            found.append(item)
    return tuple(found)


def bodies(flat):
    """A dict from the name of each body of a flat class to its block, the life first."""
    found = {"life": life_block(flat)}
    for member in flat[4]:
        if member[0] == "deed":
            found[member[1]] = member[3]
    return found
