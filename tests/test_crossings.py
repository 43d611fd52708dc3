"""Points 65 and 68."""

import random
import unittest

from tests.crowds import crossings_by_definition, crowd, in_line_order, start
from tests.plain import whole
from tests.texts import refusal
from wokenlives.crossings import crossings, meeting, nearest_crossing
from wokenlives.forests import lone_forest
from wokenlives.happenings import happen
from wokenlives.worlds import advance


def look(thing):
    return (thing, 3, "look", "look", (), 0)


def change(thing):
    return (thing, 4, "change", "set", (1,), None)


def bounded(call, world, most):
    """What a call raises with this bound, or None."""
    try:
        call(world, most=most)
    except ValueError as error:
        return (error.__class__.__name__,) + tuple(vars(error).values())
    return None


class MeetingTest(unittest.TestCase):
    def check(self, first, second, thing):
        self.assertEqual(meeting(first, second), thing)
        self.assertEqual(meeting(second, first), thing)

    def test_one_or_both_change_a_thing(self):
        self.check((change("c"),), (look("c"),), "c")
        self.check((change("c"),), (change("c"),), "c")
        self.check((look("c"), change("c"), look("c")), (look("b"), look("c")), "c")

    def test_both_only_look(self):
        self.check((look("c"),), (look("c"),), None)
        self.check((look("c"), change("d")), (look("c"), change("e")), None)

    def test_the_least_of_several_things(self):
        self.check((change("d"), change("c"), change("b")), (look("c"), look("d")), "c")
        self.check((look("a"), change("d"), change("c")), (look("a"), look("c"), look("d")), "c")
        self.check((change("a.1"), change("a:m"), change("a1")), (change("a1"), change("a:m")), "a1")
        self.check((look("d"), change("c")), (change("d"), look("c")), "c")

    def test_other_things(self):
        self.check((change("c"),), (change("d"),), None)

    def test_without_touches(self):
        self.check((), (change("c"),), None)
        self.check((), (), None)


class CrossingCase(unittest.TestCase):
    def crossings_of(self, world, **bound):
        """The crossings of a world's forest, compared with the definition and the nearest one of them."""
        forest = lone_forest(world, **bound)
        before = whole(world)
        found = crossings(forest)
        self.assertEqual(found, crossings_by_definition(forest))
        self.assertEqual(crossings(forest), found)
        nearest = min(found, key=lambda row: (row[3], in_line_order(row[0]), in_line_order(row[1])), default=None)
        self.assertEqual(nearest_crossing(world, **bound), nearest)
        self.assertEqual(whole(world), before)
        return found


class CrossingsTest(CrossingCase):
    def test_two_lives(self):
        text = "cell c = 0; class k() { life { set c = c + 1; } } start bob = k(); start ann = k();"
        self.assertEqual(self.crossings_of(start(text)), [(("ann",), ("bob",), "c", 0)])

    def test_all_pairs_in_their_order(self):
        text = """cell c = 0; cell d = 0; class k() { life { set d = c; } } class w() { life { wake eve; } }
        start dan = w(); start ann = k() asleep; start bob = k(); start cat = k(); start eve = k() asleep;"""
        world = start(text)
        self.assertEqual(list(lone_forest(world)), [("bob",), ("cat",), ("dan",), ("dan", "eve")])
        # All of them set d to what it is, which changes nothing.
        self.assertEqual(self.crossings_of(world), [])
        world = start(text.replace("set d = c", "set d = d + 1"))
        self.assertEqual(self.crossings_of(world), [
            (("bob",), ("cat",), "d", 0), (("bob",), ("dan", "eve"), "d", 1), (("cat",), ("dan", "eve"), "d", 1)])

    def test_a_line_does_not_cross_its_beginnings(self):
        text = """cell c = 0; class k() { life { set c = c + 1; wake bob; } } class e() { life { set c = c + 1; wake cat; } }
        class f() { life { set c = c + 1; } } start ann = k(); start bob = e() asleep; start cat = f() asleep;"""
        world = start(text)
        self.assertEqual(len(lone_forest(world)), 3)
        self.assertEqual(self.crossings_of(world), [])

    def test_shared_beginnings_count_once(self):
        text = """cell c = 0; class a() { life { wake bob; } } class b() { life { wake cat; wake dan; } }
        class d() { life { wake eve; } } class f() { life { set c = c + 1; } }
        start ann = a(); start bob = b() asleep; start cat = f() asleep; start dan = d() asleep; start eve = f() asleep;"""
        self.assertEqual(self.crossings_of(start(text)), [
            (("ann", "bob", "cat"), ("ann", "bob", "dan", "eve"), "c", 3)])

    def test_beginnings_that_are_not_shared(self):
        text = """cell c = 0; class w() { life { wake cat; } } class x() { life { wake dan; } }
        class f() { life { set c = c + 1; } }
        start ann = w(); start bob = x(); start cat = f() asleep; start dan = f() asleep;"""
        self.assertEqual(self.crossings_of(start(text)), [(("ann", "cat"), ("bob", "dan"), "c", 2)])

    def test_a_life_that_two_lives_wake(self):
        text = """class w() { life { wake cat; } } class e() { life { } }
        start ann = w(); start bob = w(); start cat = e() asleep;"""
        found = self.crossings_of(start(text))
        self.assertEqual(found[0], (("ann",), ("bob",), "cat", 0))
        self.assertEqual([row[:2] for row in found], [
            (("ann",), ("bob",)), (("ann",), ("bob", "cat")), (("bob",), ("ann", "cat")),
            (("ann", "cat"), ("bob", "cat"))])

    def test_without_due_lives(self):
        for text in ("", "class k() { } start ann = k() asleep;", "class k() { } start ann = k() at 1;"):
            self.assertEqual(self.crossings_of(start(text)), [])
            self.assertIsNone(nearest_crossing(start(text), most=0))

    def test_crossings_of_a_later_moment(self):
        text = "cell c = 0; class k() { life { hold 1; set c = c + 1; } } start ann = k(); start bob = k();"
        world = start(text)
        self.assertEqual(self.crossings_of(world), [])
        world, _ = happen(happen(world, "ann")[0], "bob")
        self.assertEqual(self.crossings_of(world), [])
        self.assertEqual(self.crossings_of(advance(world)), [(("ann",), ("bob",), "c", 0)])

    def test_new_lists(self):
        forest = lone_forest(start("cell c = 0; class k() { life { set c = c + 1; } } start bob = k(); start ann = k();"))
        crossings(forest).clear()
        self.assertEqual(len(crossings(forest)), 1)

    def test_random_worlds(self):
        seen = {}
        for seed in range(250):
            world = crowd(random.Random(seed))
            if bounded(lone_forest, world, 60) is None:
                found = self.crossings_of(world, most=60)
                seen[min([row[3] for row in found], default=None)] = True
        for shared in (None, 0, 1, 2):
            self.assertIn(shared, seen)


class NearestTest(CrossingCase):
    # The lines of one name cross nowhere; (ann, cat) and (bob, dan) cross, and so do (ann, cat) and (ann, eve).
    TEXT = """cell c = 0; cell d = 0; class w() { life { wake cat; wake eve; } } class x() { life { wake dan; } }
    class f() { life { set c = c + 1; set d = d + 1; } } class g() { life { set d = d + 1; } }
    start ann = w(); start bob = x(); start cat = f() asleep; start dan = f() asleep; start eve = g() asleep;"""

    def test_the_least_number_of_shared_lines(self):
        world = start(self.TEXT)
        self.assertEqual(self.crossings_of(world), [
            (("ann", "cat"), ("ann", "eve"), "d", 1), (("ann", "cat"), ("bob", "dan"), "c", 2),
            (("ann", "eve"), ("bob", "dan"), "d", 2)])
        self.assertEqual(nearest_crossing(world), (("ann", "cat"), ("ann", "eve"), "d", 1))

    def test_the_least_number_stands_not_always_first(self):
        text = """cell c = 0; cell d = 0; class w() { life { wake cat; } } class f() { life { set c = c + 1; } }
        class x() { life { set c = c + 1; set d = d + 1; } } class y() { life { set d = d + 1; } }
        start ann = w(); start bob = x(); start cat = f() asleep; start zoe = y();"""
        world = start(text)
        self.assertEqual([row[3] for row in self.crossings_of(world)], [0, 1])
        text = text.replace("zoe = y()", "zoe = w()").replace("wake cat;",
                                                              "if me == ann { wake cat; } else { set d = 7; }")
        self.assertEqual(self.crossings_of(start(text)), [
            (("bob",), ("zoe",), "d", 0), (("bob",), ("ann", "cat"), "c", 1)])

    def test_among_the_same_numbers_the_first_lines_decide(self):
        text = """cell c = 0; cell d = 0; class a() { life { set d = 1; } } class b() { life { set c = 1; } }
        start dan = a(); start bob = b(); start cat = b(); start ann = a();"""
        found = self.crossings_of(start(text))
        self.assertEqual(found, [(("ann",), ("dan",), "d", 0), (("bob",), ("cat",), "c", 0)])
        self.assertEqual(nearest_crossing(start(text)), found[0])
        text = text.replace("class a() { life { set d = 1; } }", "class a() { life { set c = 1; } }")
        self.assertEqual(nearest_crossing(start(text)), (("ann",), ("bob",), "c", 0))

    def test_a_forest_without_end(self):
        text = """cell c = 0; class a() { life { while 1 { wake bob; sleep; } } } class b() { life { while 1 { wake ann; sleep; } } }
        class e() { life { set c = c + 1; } } start ann = a(); start bob = b() asleep;"""
        crossed = start(text + "start cat = e(); start dan = e();")
        self.assertEqual(nearest_crossing(crossed), (("cat",), ("dan",), "c", 0))
        self.assertEqual(nearest_crossing(crossed, most=3), (("cat",), ("dan",), "c", 0))
        self.assertEqual(bounded(nearest_crossing, crossed, 2), ("TooLong", 2))
        free = start(text + "start cat = e();")
        self.assertEqual(refusal(nearest_crossing, free), ("TooLong", 120))
        self.assertEqual(bounded(nearest_crossing, free, 50), ("TooLong", 50))

    def test_exactly_most_lines_without_crossings(self):
        text = """class a() { life { wake bob; wake cat; } } class b() { life { wake dan; } } class e() { life { } }
        start ann = a(); start bob = b() asleep; start cat = e() asleep; start dan = e() asleep; start eve = e();"""
        world = start(text)
        self.assertEqual(len(lone_forest(world)), 5)
        self.assertIsNone(nearest_crossing(world, most=5))
        for most in range(5):
            self.assertEqual(bounded(nearest_crossing, world, most), ("TooLong", most))

    def test_a_crossing_is_known_but_not_decided(self):
        # (ann, cat) and (bob, dan) share two lines, so the lines of three names are counted, too.
        text = """cell c = 0; class w() { life { wake cat; } } class x() { life { wake dan; } }
        class f() { life { set c = c + 1; wake eve; } } class g() { life { set c = c + 1; } } class e() { life { wake fay; } }
        class h() { life { } } start ann = w(); start bob = x(); start cat = f() asleep; start dan = g() asleep;
        start eve = e() asleep; start fay = h() asleep;"""
        world = start(text)
        lines = list(lone_forest(world))
        self.assertEqual([len(line) for line in lines], [1, 1, 2, 2, 3, 4])
        nearest = (("ann", "cat"), ("bob", "dan"), "c", 2)
        self.assertEqual(nearest_crossing(world), nearest)
        # Behind the lines of three names it is decided, and those of four are not counted.
        self.assertEqual(nearest_crossing(world, most=5), nearest)
        for most in (0, 1, 2, 3, 4):
            self.assertEqual(bounded(nearest_crossing, world, most), ("TooLong", most))

    def test_a_known_crossing_is_not_always_the_nearest(self):
        # (ann, cat) and (bob, dan) share two lines, (eve, fay) and (gus) one alone.
        text = """cell c = 0; cell d = 0; class k(n) { life { if n == 1 { wake cat; } if n == 2 { wake dan; } if n == 3 { wake fay; }
        if n == 4 { set c = c + 1; } if n == 5 { set d = d + 1; } } } start ann = k(1); start bob = k(2); start eve = k(3);
        start cat = k(4) asleep; start dan = k(4) asleep; start fay = k(5) asleep; start gus = k(5);"""
        self.assertEqual(self.crossings_of(start(text)), [
            (("gus",), ("eve", "fay"), "d", 1), (("ann", "cat"), ("bob", "dan"), "c", 2)])

    def test_120_lines_are_the_default(self):
        text = "class k(n) { life { while n > 1 { set n = n - 1; wake bob; sleep; } } } class b() { life { while 1 { wake ann; sleep; } } }"
        world = start(text + "start ann = k(60); start bob = b() asleep; start cat = k(1);")
        self.assertIsNone(nearest_crossing(world))
        world = start(text + "start ann = k(60); start bob = b() asleep; start cat = k(1); start dan = k(1);")
        self.assertEqual(refusal(nearest_crossing, world), ("TooLong", 120))
        self.assertIsNone(nearest_crossing(world, most=121))


if __name__ == "__main__":
    unittest.main()
