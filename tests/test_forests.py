"""Points 63, 64 and the bound of point 68."""

import random
import unittest

from tests.chance import calm_program_text
from tests.plain import whole
from tests.texts import refusal
from wokenlives.forests import Forest, lone_forest
from wokenlives.happenings import happen
from wokenlives.programs import read_program
from wokenlives.runs import follow
from wokenlives.worlds import advance, start_world


def start(text):
    return start_world(read_program(text))


def bounded(world, most):
    """What lone_forest raises with this bound, or None."""
    try:
        lone_forest(world, most=most)
    except ValueError as error:
        return (error.__class__.__name__, error.most)
    return None


def lines_by_definition(world, longest):
    """All lines of at most so many names, found by going through all courses."""
    found = []
    ways = [((), world, {}, {})]
    while ways:
        course, behind, makers, in_line = ways.pop()
        if len(course) == longest:
            continue
        for life in behind.due():
            after, happening = happen(behind, life)
            place = len(course)
            fits = place == 0 or (in_line and makers.get(life) == place - 1)
            then = dict(makers)
            for thing, _, mode, _, _, _ in happening.touches:
                if mode == "change":
                    then[thing] = place
            if fits:
                found.append(course + (life,))
            ways.append((course + (life,), after, then, fits))
    return sorted(found, key=lambda line: (len(line), line))


class ForestCase(unittest.TestCase):
    def forest(self, world, **bound):
        """The forest of a world, whose touches and worlds are checked."""
        before = whole(world)
        forest = lone_forest(world, **bound)
        self.assertIsInstance(forest, Forest)
        self.assertEqual((whole(world), whole(forest.world)), (before, before))
        lines = list(forest)
        self.assertEqual(len(forest), len(lines))
        self.assertEqual(lines, sorted(lines, key=lambda line: (len(line), line)))
        for line in lines:
            self.assertIs(line in forest, True)
            behind, happenings = follow(world, list(line))
            self.assertEqual(forest.touches_of(line), happenings[-1].touches)
            self.assertEqual(whole(forest.world_behind(line)), whole(behind))
        return forest


class LinesTest(ForestCase):
    def test_the_empty_forest(self):
        for text in ("", "class k() { } start ann = k() asleep;", "class k() { } start ann = k() at 1;"):
            forest = self.forest(start(text))
            self.assertEqual((list(forest), len(forest)), ([], 0))
            self.assertEqual(list(self.forest(start(text), most=0)), [])
            self.assertIs(("ann",) in forest, False)

    def test_lives_that_wake_others(self):
        text = """class a() { life { wake dan; wake cat; } } class b() { life { wake eve; sleep; } } class e() { life { } }
        start bob = a(); start ann = e(); start cat = b() asleep; start dan = b() asleep; start eve = e() asleep;"""
        forest = self.forest(start(text))
        self.assertEqual(list(forest), [("ann",), ("bob",), ("bob", "cat"), ("bob", "dan"), ("bob", "cat", "eve"),
                                        ("bob", "dan", "eve")])
        for line in ((), ("cat",), ("ann", "bob"), ("bob", "eve"), ("bob", "cat", "dan"), ("bob", "cat", "eve", "dan")):
            self.assertIs(line in forest, False, line)

    def test_a_forest_at_a_later_moment(self):
        text = "class a() { life { hold 2; wake cat; } } class b() { life { } } start ann = a(); start cat = b() asleep;"
        world = start(text)
        self.assertEqual(list(self.forest(world)), [("ann",)])
        world, _ = happen(world, "ann")
        self.assertEqual(list(self.forest(world)), [])
        self.assertEqual(list(self.forest(advance(world))), [("ann",), ("ann", "cat")])

    def test_lives_that_are_woken_later_are_no_line(self):
        text = """class a() { life { wake cat after 0; wake dan after 1; } } class b() { life { } }
        start ann = a(); start cat = b() asleep; start dan = b() asleep;"""
        self.assertEqual(list(self.forest(start(text))), [("ann",)])

    def test_units_and_gates(self):
        text = """store s = 1; gate g shut; class a() { life { seize 1 of s; hold 1; free 1 of s; open g; } }
        class b() { life { seize 1 of s; } } class e() { life { wait g; } }
        start ann = a(); start bob = b(); start cat = b(); start dan = e(); start eve = e();"""
        world, _ = follow(start(text), ["ann", "bob", "cat", "dan", "eve"])
        self.assertEqual(list(self.forest(advance(world))), [
            ("ann",), ("ann", "bob"), ("ann", "dan"), ("ann", "eve"), ("ann", "bob", "cat")])

    def test_made_lives(self):
        text = "cell c = 0; class a() { life { make c = b(); wake c; make c = b(); wake c; } } class b() { } start ann = a();"
        forest = self.forest(start(text))
        self.assertEqual(list(forest), [("ann",), ("ann", "ann.1"), ("ann", "ann.2")])

    def test_woken_stopped_and_woken_again_at_one_moment(self):
        text = """class a() { life { wake cat; stop cat; wake cat; } } class b() { life { sleep; } }
        start ann = a(); start cat = b() asleep;"""
        self.assertEqual(list(self.forest(start(text))), [("ann",), ("ann", "cat")])
        # The state of bob's stand is the same again behind ann, but ann has changed it last.
        text = """class a() { life { stop bob; wake bob; } } class b() { life { } } start ann = a(); start bob = b();"""
        self.assertEqual(list(self.forest(start(text))), [("ann",), ("bob",), ("ann", "bob")])

    def test_woken_and_stopped(self):
        text = """class a() { life { wake cat; stop cat; stop bob; } } class b() { life { } }
        start ann = a(); start bob = b(); start cat = b() asleep;"""
        self.assertEqual(list(self.forest(start(text))), [("ann",), ("bob",)])

    def test_a_look_at_a_stand_makes_nobody_due(self):
        text = """cell c = 0; class a() { life { set c = stand(bob); wake bob; stop cat; } } class b() { life { } }
        start ann = a(); start bob = b(); start cat = b() asleep;"""
        self.assertEqual(list(self.forest(start(text))), [("ann",), ("bob",)])

    def test_a_life_that_comes_twice(self):
        text = """class a() { life { wake bob; sleep; wake cat; } } class b() { life { wake ann; } } class e() { life { } }
        start ann = a(); start bob = b() asleep; start cat = e() asleep;"""
        self.assertEqual(list(self.forest(start(text))), [
            ("ann",), ("ann", "bob"), ("ann", "bob", "ann"), ("ann", "bob", "ann", "cat")])

    def test_random_forests(self):
        seen = {}
        for seed in range(120):
            chance = random.Random(seed)
            world = start(calm_program_text(chance))
            for _ in range(chance.randint(0, 12)):
                if world.coming() is not None:
                    world = advance(world)
                    world, _ = happen(world, chance.choice(world.due()))
            if world.coming() is not None:
                world = advance(world)
            try:
                lines = list(self.forest(world, most=60))
            except ValueError:
                continue
            self.assertEqual([line for line in lines if len(line) <= 4], lines_by_definition(world, 4))
            seen[max([len(line) for line in lines], default=0)] = True
        for longest in range(4):
            self.assertIn(longest, seen)


class BoundTest(ForestCase):
    TEXT = """class a() { life { wake bob; wake cat; } } class b() { life { wake dan; } } class e() { life { } }
    start ann = a(); start bob = b() asleep; start cat = b() asleep; start dan = e() asleep; start eve = e();"""

    def test_exactly_most_lines_and_one_more(self):
        world = start(self.TEXT)
        self.assertEqual(len(self.forest(world)), 6)
        self.assertEqual(len(self.forest(world, most=6)), 6)
        self.assertEqual(len(self.forest(world, most=999999999)), 6)
        for most in range(6):
            self.assertEqual(bounded(world, most), ("TooLong", most))

    def test_an_endless_forest(self):
        text = "class a() { life { while 1 { wake bob; sleep; } } } class b() { life { while 1 { wake ann; sleep; } } }"
        world = start(text + "start ann = a(); start bob = b() asleep;")
        self.assertEqual(refusal(lone_forest, world), ("TooLong", 120))
        self.assertEqual(bounded(world, 7), ("TooLong", 7))

    def test_120_lines_are_the_default(self):
        text = "class a(n) { life { while n > 1 { set n = n - 1; wake bob; sleep; } } } class b() { life { while 1 { wake ann; sleep; } } }"
        # ann has n happenings, and bob n - 1.
        world = start(text + "start ann = a(60); start bob = b() asleep; start cat = a(1);")
        self.assertEqual(len(self.forest(world)), 120)
        world = start(text + "start ann = a(60); start bob = b() asleep; start cat = a(1); start dan = a(1);")
        self.assertEqual(refusal(lone_forest, world), ("TooLong", 120))
        self.assertEqual(len(self.forest(world, most=121)), 121)

    def test_what_a_caller_may_change(self):
        forest = self.forest(start(self.TEXT))
        lines = list(forest)
        lines.clear()
        for line in forest:
            lines.append(line)
            self.assertIn(line, forest)
        self.assertEqual(lines, list(forest))
        self.assertEqual(len(forest), 6)


if __name__ == "__main__":
    unittest.main()
