"""Random programs whose lives meet seldom, and what lines, courses and crossings are by their definitions alone."""

from wokenlives.happenings import happen
from wokenlives.programs import read_program
from wokenlives.worlds import advance, start_world

LIVES = ("ann", "bob", "cat", "dan", "eve", "fay", "gus")


def start(text):
    return start_world(read_program(text))


def crowd_text(chance, many, meet):
    """A program of so many lives, whose statements touch what others touch with the probability meet."""
    lives = LIVES[:many]
    rows = ["cell calm = 3; cell both = 0; line q; store s = 2; gate g shut; wheel turn = 3; mark m = 0;"]
    wakers = {}
    for life in lives[1:]:
        if chance.random() < 0.6:
            wakers[life] = chance.choice(lives)
    for life in lives:
        woken = [other for other in lives if wakers.get(other) == life and other != life]
        # Those that others wake meet more often, so that partings have longer courses.
        likely = meet if life in wakers else meet / 6
        block = " ".join(crowd_part(chance, life, lives, woken, likely) for _ in range(chance.randint(1, 3)))
        rows.append(f"cell c{life} = 0; class k{life}() {{ life {{ {block} }} }}")
        rows.append(f"start {life} = k{life}(){' asleep' if life in wakers else ''};")
    chance.shuffle(rows)
    return "\n".join(rows)


def crowd_part(chance, life, lives, woken, meet):
    """Statements up to a rest."""
    found = [f"wake {other};" for other in woken]
    for _ in range(chance.randint(0, 3)):
        if chance.random() < meet:
            found.append(chance.choice((
                "set both = both + 1;", f"set c{life} = both;", f"stop {chance.choice(lives)};",
                f"wake {chance.choice(lives)};",
                "tell saw(both);", "tell saw(both, length(q));", "put me into q;", "take both from turn;",
                "seize 1 of s; free 1 of s;", "open g;", "wait g;",
                f"set {chance.choice(lives)}.m = now;", f"set c{life} = stand({chance.choice(lives)});",
            )))
        else:
            found.append(chance.choice((
                f"set c{life} = c{life} + calm;", f"tell did(c{life}, me.m);", "set me.m = me.m + 1;", "tell hello();",
                f"make c{life} = k{life}();",
            )))
    chance.shuffle(found)
    return " ".join(found) + chance.choice((" sleep;", " sleep;", " sleep;", " hold 1;", " hold 0;"))


def crowd(chance, most=6):
    """The start world of a crowd, or a world that some of its happenings lead to, advanced."""
    world = start(crowd_text(chance, chance.randint(2, most), chance.choice((0, 0.2, 0.5, 0.8))))
    for _ in range(chance.choice((0, 0, 0, 3))):
        if world.coming() is not None:
            world = advance(world)
            world, _ = happen(world, chance.choice(world.due()))
    return world if world.coming() is None else advance(world)


def in_line_order(line):
    return (len(line), line)


def beginnings(line):
    """The proper beginnings of a line."""
    return {line[:length] for length in range(1, len(line))}


def things_met(first, second):
    """The things at which two tuples of touches meet."""
    return {one[0] for one in first for other in second if one[0] == other[0] and "change" in (one[2], other[2])}


def crossings_by_definition(forest):
    """What crossings gives, by going through all pairs of lines."""
    lines = list(forest)
    found = []
    for first in lines:
        for second in lines:
            apart = first[:len(second)] != second and second[:len(first)] != first
            met = things_met(forest.touches_of(first), forest.touches_of(second))
            if in_line_order(first) < in_line_order(second) and apart and met:
                found.append((first, second, min(met), len(beginnings(first) | beginnings(second))))
    return sorted(found, key=lambda row: (in_line_order(row[0]), in_line_order(row[1])))


def orders(lines):
    """All orders of lines in which each line stands behind its proper beginnings."""
    def grow(order, left):
        if not left:
            yield order
        for line in left:
            if line[:-1] in order or len(line) == 1:
                yield from grow(order + [line], [other for other in left if other != line])
    return list(grow([], list(lines)))


def whole_courses(world):
    """All whole courses, found by running all of them."""
    if not world.due():
        return [[]]
    found = []
    for life in world.due():
        behind, _ = happen(world, life)
        found += [[life] + course for course in whole_courses(behind)]
    return found


def meeting_behind(world, first, second):
    """The things at which the happenings of two due lives meet."""
    return things_met(happen(world, first)[1].touches, happen(world, second)[1].touches)


def shortest_parting(world, longest):
    """The least length of a course of a parting, if it is not above longest, otherwise None."""
    worlds = [world]
    for length in range(longest + 1):
        for behind in worlds:
            due = behind.due()
            if any(meeting_behind(behind, one, other) for one in due for other in due if one < other):
                return length
        worlds = [happen(behind, life)[0] for behind in worlds for life in behind.due()]
    return None
