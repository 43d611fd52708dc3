"""Points 86 and 87."""

import random
import unittest

from tests.chance import calm_program_text
from tests.crowds import crowd, meeting_behind, start
from tests.plain import whole
from tests.test_counts import CROSSED, TREE, chain, lone_lives
from tests.test_crossings import bounded
from tests.texts import refusal
from wokenlives.crossings import crossings
from wokenlives.forests import lone_forest
from wokenlives.happenings import happen
from wokenlives.partings import nearest_parting
from wokenlives.runs import follow
from wokenlives.witness import accepts_alike, accepts_parting, alike_witness, no_end
from wokenlives.worlds import advance

ENDLESS = """class a() { life { while 1 { wake bob; sleep; } } } class b() { life { while 1 { wake ann; sleep; } } }
start ann = a(); start bob = b() asleep;"""


class AlikeTest(unittest.TestCase):
    def witness(self, text):
        return alike_witness(lone_forest(start(text)))

    def accepts(self, text, witness):
        world = start(text)
        before = whole(world)
        found = accepts_alike(world, witness)
        self.assertIsInstance(found, bool)
        self.assertEqual(whole(world), before)
        return found

    def test_the_witness(self):
        text = "cell c = 3; class k() { life { set c = c; wake bob; } } class e() { } start ann = k(); start bob = e() asleep;"
        self.assertEqual(self.witness(text), (
            (("ann",), (("ann", 1, "change", "run", (0, 0), 1), ("c", 0, "look", "look", (), 3),
                        ("c", 0, "look", "set", (3,), None),
                        ("bob", 1, "change", "wake", (0, 0), 1), ("ann", 2, "change", "end", (), 1))),
            (("ann", "bob"), (("bob", 2, "change", "run", (0, 0), 1), ("bob", 3, "change", "end", (), 1)))))

    def test_the_empty_forest(self):
        for text in ("", "class k() { } start ann = k() at 1;"):
            self.assertEqual(self.witness(text), ())
            self.assertIs(self.accepts(text, ()), True)
            self.assertIs(self.accepts(text, ((("ann",), ()),)), False)

    def test_crossings(self):
        forest = lone_forest(start(CROSSED))
        self.assertEqual(refusal(alike_witness, forest), ("Crossed", ("bob",), ("cat",)))
        # What the witness would be if there were no crossings.
        witness = tuple((line, forest.touches_of(line)) for line in forest)
        self.assertIs(self.accepts(CROSSED, witness), False)
        self.assertIs(self.accepts(CROSSED, ()), False)

    def test_its_own_witness(self):
        for text in (TREE, chain(120), lone_lives(20)[1]):
            self.assertIs(self.accepts(text, self.witness(text)), True)

    def test_a_forest_of_more_lines_than_the_default(self):
        text = lone_lives(20)[1].replace("k() { }", "k() { var n = 0; var x = 0; life { while n < 8 { set n = n + 1; make x = e(); wake x; } } }")
        text += "class e() { }"
        witness = alike_witness(lone_forest(start(text), most=200))
        self.assertEqual(len(witness), 180)
        self.assertIs(self.accepts(text, witness), True)
        self.assertIs(self.accepts(text, witness[:-1]), False)

    def test_other_witnesses(self):
        witness = self.witness(TREE)
        self.assertEqual(len(witness), 5)
        for at, (line, touches) in enumerate(witness):
            before, behind = witness[:at], witness[at + 1:]
            first = touches[0]
            for found in (
                before + behind, before + (witness[at],) * 2 + behind, before + ((line, touches[1:]),) + behind,
                before + ((line, touches + touches[:1]),) + behind, before + ((line, ()),) + behind,
                before + ((line, touches[:1] * 2 + touches[1:]),) + behind, before + ((line, touches[::-1]),) + behind,
                before + ((line + ("zoe",), touches),) + behind, before + ((("zoe",), touches),) + behind,
                before + (((), touches),) + behind,
                before + ((line, (("zoe",) + first[1:],) + touches[1:]),) + behind,
                before + ((line, ((first[0], 99) + first[2:],) + touches[1:]),) + behind,
                before + ((line, (first[:2] + ("look",) + first[3:],) + touches[1:]),) + behind,
                before + ((line, (first[:5] + (0,),) + touches[1:]),) + behind,
            ):
                self.assertIs(self.accepts(TREE, found), False)
        for at in range(4):
            exchanged = witness[:at] + (witness[at + 1], witness[at]) + witness[at + 2:]
            self.assertIs(self.accepts(TREE, exchanged), False)
        self.assertIs(self.accepts(TREE, ()), False)
        self.assertIs(self.accepts(TREE, witness * 2), False)
        self.assertIs(self.accepts(TREE, witness + ((("zoe", "c:m"), (("a.b", 0, "look", "x", (), ()),)),)), False)
        self.assertIs(self.accepts(TREE.replace("eve = e()", "eve = c()"), witness), False)

    def test_a_forest_without_end(self):
        lines = [("ann",), ("ann", "bob"), ("ann", "bob", "ann")]
        touches = [follow(start(ENDLESS), list(line))[1][-1].touches for line in lines]
        for many in range(4):
            self.assertIs(self.accepts(ENDLESS, tuple(zip(lines[:many], touches))), False)
        self.assertIs(self.accepts(ENDLESS, ((("zoe",), ()),) * 200), False)

    def test_random_worlds(self):
        seen = {}
        worlds = [crowd(random.Random(seed), 4) for seed in range(120)]
        worlds = [world for world in worlds if bounded(lone_forest, world, 30) is None]
        for at, world in enumerate(worlds):
            forest = lone_forest(world)
            witness = tuple((line, forest.touches_of(line)) for line in forest)
            free = crossings(forest) == []
            self.assertIs(accepts_alike(world, witness), free)
            if free:
                self.assertEqual(alike_witness(forest), witness)
                other = worlds[at - 1]
                same = witness == tuple((line, lone_forest(other).touches_of(line)) for line in lone_forest(other))
                self.assertIs(accepts_alike(other, witness), same)
            seen[free] = True
        self.assertEqual(len(seen), 2)


class PartingTest(unittest.TestCase):
    TEXT = """cell c = 0; cell d = 0; class w() { life { wake dan; } } class x() { life { wake eve; } }
    class f() { life { set c = c + 1; set d = d + 1; } } class g() { life { set c = 7; set d = d; } } class e() { }
    start ann = w(); start bob = x(); start cat = e(); start dan = f() asleep; start eve = g() asleep; start fay = e() at 3;"""

    def accepts(self, *parting):
        world = start(self.TEXT)
        before = whole(world)
        found = accepts_parting(world, parting)
        self.assertIsInstance(found, bool)
        self.assertEqual(whole(world), before)
        return found

    def test_the_nearest_parting(self):
        parting = nearest_parting(start(self.TEXT))
        self.assertEqual(parting, (("ann", "bob"), "dan", "eve", "c"))
        self.assertIs(self.accepts(*parting), True)

    def test_other_partings(self):
        # Not the least thing, the lives exchanged, and other courses.
        for course in (("ann", "bob"), ("bob", "ann"), ("cat", "ann", "bob"), ("ann", "bob", "cat")):
            for thing in ("c", "d"):
                self.assertIs(self.accepts(course, "dan", "eve", thing), True)
                self.assertIs(self.accepts(course, "eve", "dan", thing), True)

    def test_things_at_which_they_do_not_meet(self):
        for thing in ("dan", "eve", "ann", "e", "zoe", "", "dan:m", "c:d"):
            self.assertIs(self.accepts(("ann", "bob"), "dan", "eve", thing), False)
        self.assertIs(self.accepts((), "ann", "bob", "c"), False)
        self.assertIs(self.accepts((), "ann", "bob", "dan"), False)
        self.assertIs(self.accepts(("ann", "bob"), "cat", "eve", "c"), False)

    def test_things_that_both_only_look_at(self):
        text = "cell c = 0; class k() { life { set c = c; } } start ann = k(); start bob = k();"
        self.assertIs(accepts_parting(start(text), ((), "ann", "bob", "c")), False)
        text = text.replace("c = c", "c = c + 1")
        self.assertIs(accepts_parting(start(text), ((), "ann", "bob", "c")), True)

    def test_one_life_twice(self):
        self.assertIs(self.accepts(("ann", "bob"), "dan", "dan", "c"), False)
        self.assertIs(self.accepts((), "ann", "ann", "ann"), False)

    def test_lives_that_are_not_due(self):
        for first, second in (("dan", "fay"), ("fay", "dan"), ("dan", "ann"), ("zoe", "dan"), ("dan", "zoe"),
                              ("c", "dan"), ("dan", "")):
            self.assertIs(self.accepts(("ann", "bob"), first, second, "c"), False)
        self.assertIs(self.accepts(("ann",), "dan", "eve", "c"), False)
        self.assertIs(self.accepts((), "dan", "eve", "c"), False)

    def test_courses_that_are_none(self):
        for course in (("ann", "ann", "bob"), ("ann", "bob", "zoe"), ("eve",), ("ann", "bob", "fay"), ("",), ("c",),
                       ("ann", "bob", "ann:m"),
                       ("ann", "bob", "dan")):
            self.assertIs(self.accepts(course, "dan", "eve", "c"), False)

    def test_a_course_does_not_advance(self):
        text = "cell c = 0; class k() { life { set c = c + 1; } } start ann = k() at 1; start bob = k() at 1;"
        self.assertIs(accepts_parting(start(text), ((), "ann", "bob", "c")), False)
        self.assertIs(accepts_parting(advance(start(text)), ((), "ann", "bob", "c")), True)

    def test_random_worlds(self):
        seen = {}
        for seed in range(80):
            chance = random.Random(seed)
            world = crowd(chance, 4)
            behind, course = world, ()
            for _ in range(chance.randint(0, 3)):
                if behind.due():
                    life = chance.choice(behind.due())
                    behind, course = happen(behind, life)[0], course + (life,)
            for one in behind.due():
                for other in behind.due():
                    things = meeting_behind(behind, one, other) if one != other else set()
                    for thing in world.things():
                        self.assertIs(accepts_parting(world, (course, one, other, thing)), thing in things)
                        seen[thing in things] = True
        self.assertEqual(len(seen), 2)


def plain_state(world):
    return ([(thing, world.state(thing)) for thing in world.things()], [world.own_part(life) for life in world.lives()])


def no_end_by_definition(world, most):
    """What no_end answers or raises."""
    worlds = [world]
    while len(worlds) <= most and worlds[-1].due():
        worlds.append(happen(worlds[-1], worlds[-1].due()[0])[0])
    for j, late in enumerate(worlds):
        for i, early in enumerate(worlds[:j]):
            if plain_state(early) == plain_state(late):
                return (i, j)
    return ("TooLong", most) if worlds[-1].due() else None


class NoEndTest(unittest.TestCase):
    def found(self, text, **bound):
        world = text if not isinstance(text, str) else start(text)
        before = whole(world)
        try:
            found = no_end(world, **bound)
        except ValueError as error:
            found = (error.__class__.__name__, error.most)
        self.assertEqual(found, no_end_by_definition(world, bound.get("most", 60)))
        self.assertEqual(whole(world), before)
        return found

    def test_a_course_that_ends(self):
        self.assertIsNone(self.found(""))
        self.assertIsNone(self.found("class k() { } start ann = k() at 2;", most=0))
        self.assertIsNone(self.found("class k() { } start ann = k(); start bob = k();"))
        # Three worlds: the last one is looked at, too.
        self.assertIsNone(self.found("class k() { } start ann = k(); start bob = k();", most=2))
        for most in (0, 1):
            self.assertEqual(self.found("class k() { } start ann = k(); start bob = k();", most=most),
                             ("TooLong", most))
        self.assertIsNone(self.found("class k() { life { while 1 { hold 1; } } } start ann = k();"))
        self.assertIsNone(self.found("class k() { life { while 1 { hold 0; } } } start ann = k();"))

    def test_a_course_that_comes_back(self):
        # Behind ann and bob each stands at its sleep; behind both again all is as behind the first two.
        self.assertEqual(self.found(ENDLESS), (2, 4))
        self.assertEqual(self.found(ENDLESS, most=4), (2, 4))
        for most in range(4):
            self.assertEqual(self.found(ENDLESS, most=most), ("TooLong", most))
        behind, _ = follow(start(ENDLESS), ["ann", "bob"])
        self.assertEqual(self.found(behind), (0, 2))

    def test_the_beginning_is_not_part_of_the_ring(self):
        text = ENDLESS.replace("start ann", "class e() { } start abe = e(); start aby = e(); start ann")
        self.assertEqual(self.found(text), (4, 6))

    def test_states_that_do_not_come_back(self):
        text = ENDLESS.replace("wake bob;", "set c = c + 1; wake bob;") + "cell c = 0;"
        self.assertEqual(self.found(text), ("TooLong", 60))
        self.assertEqual(self.found(text, most=7), ("TooLong", 7))
        # Own parts count, too.
        text = ENDLESS.replace("wake bob;", "set n = n + 1; wake bob;").replace("class a() {", "class a() { var n = 0;")
        self.assertEqual(self.found(text), ("TooLong", 60))
        # A number that comes back after some rounds.
        text = ENDLESS.replace("wake bob;", "set c = (c + 1) mod 3; wake bob;") + "cell c = 0;"
        self.assertEqual(self.found(text), (2, 8))
        text = ENDLESS.replace("wake bob;", "take c from w; wake bob;") + "cell c = 0; wheel w = 4;"
        self.assertEqual(self.found(text), (2, 10))

    def test_numbers_do_not_count(self):
        text = ENDLESS.replace("wake bob;", "set c = 1; set c = 0; wake bob;") + "cell c = 0;"
        self.assertEqual(self.found(text), (2, 4))
        world, _ = follow(start(text), ["ann", "bob"] * 20)
        self.assertEqual(world.number("c"), 40)

    def test_the_least_names_decide(self):
        # zoe would end the ring, but it never has its turn.
        text = ENDLESS + "class z() { life { stop ann; stop bob; } } start zoe = z();"
        self.assertEqual(self.found(text), (2, 4))
        text = ENDLESS + "class z() { life { stop ann; stop bob; } } start abe = z();"
        self.assertIsNone(self.found(text))

    def test_60_worlds_are_the_default(self):
        counted = "class a() { var n = 60; life { while n > 0 { set n = n - 1; wake bob; sleep; } } } class b() { life { while 1 { wake ann; sleep; } } }"
        starts = "start ann = a(); start bob = b() asleep;"
        self.assertEqual(self.found(counted + starts), ("TooLong", 60))
        # ann has 31 happenings and bob 30; W(61) is the one that has no due life.
        self.assertEqual(self.found(counted.replace("60", "30") + starts), ("TooLong", 60))
        self.assertIsNone(self.found(counted.replace("60", "30") + starts, most=61))
        self.assertIsNone(self.found(counted.replace("60", "29") + starts))

    def test_random_worlds(self):
        seen = {}
        for seed in range(150):
            chance = random.Random(seed)
            world = crowd(chance, 5) if seed % 2 else start(calm_program_text(chance))
            found = self.found(world, most=chance.choice((3, 20)))
            seen[found and found[0] == "TooLong"] = True
        self.assertGreater(len(seen), 1)


if __name__ == "__main__":
    unittest.main()
