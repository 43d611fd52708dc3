"""Points 24, 54, 55 and 56; every happening is made by the reader and by the machine."""

import random
import unittest

from tests.chance import calm_program_text, random_program_text
from tests.plain import plain_happening, told_happening, whole
from tests.texts import refusal
from wokenlives.happenings import Happening, happen
from wokenlives.programs import read_program
from wokenlives.runs import follow, run
from wokenlives.worlds import advance, start_world

ITEMS = "cell c = 0; cell d = 5; line q; store s = 2; gate g shut; wheel w = 3; mark m = 8;"


def start(text):
    return start_world(read_program(ITEMS + text))


class HappenCase(unittest.TestCase):
    def both(self, world, life):
        """(world behind, happening), which are compared with those of the machine and the oracle."""
        before = whole(world)
        behind, happening = happen(world, life)
        other, told = happen(world, life, by="machine")
        self.assertEqual(whole(behind), whole(other))
        self.assertEqual(told_happening(happening), told_happening(told))
        self.assertEqual(told_happening(happening), told_happening(happen(world, life, by="reader")[1]))
        self.assertEqual((whole(behind), happening.touches, happening.outcome, happening.founds),
                         plain_happening(world, life))
        self.assertEqual(happening.before, world.own_part(life))
        self.assertEqual((happening.life, happening.time, happening.stage), (life, world.time, world.stage))
        self.assertEqual(whole(world), before)
        return behind, happening


class TouchesTest(HappenCase):
    def test_looks_and_changes(self):
        world = start("class k() { life { set c = d; set c = 5; take c from w; sleep; } } start ann = k();")
        behind, happening = self.both(world, "ann")
        self.assertIsInstance(happening, Happening)
        self.assertEqual(happening.touches, (
            ("ann", 1, "change", "run", (0, 0), 1), ("d", 0, "look", "look", (), 5), ("c", 1, "change", "set", (5,), None),
            ("c", 1, "look", "set", (5,), None), ("w", 1, "change", "take", (), 0), ("c", 2, "change", "set", (0,), None),
            ("ann", 2, "change", "sleep", (), 1)))
        self.assertEqual(happening.outcome, ("rest",))
        self.assertEqual(happening.before, ("k", (), (("life", 0, ()),), (), None, 0))
        self.assertEqual(happening.founds, (("ann", ("due", 0, 0), 0), ("c", 0, 0), ("w", (3, 0), 0)))
        self.assertEqual((behind.state("c"), behind.number("c"), behind.number("d")), (0, 2, 0))
        self.assertEqual((behind.state("ann"), behind.number("ann")), (("asleep",), 2))
        self.assertEqual(behind.own_part("ann"), ("k", (), (("life", 4, ()),), (), None, 0))
        self.assertEqual((behind.time, behind.stage), (0, 0))

    def test_answers_stand_at_once(self):
        world = start("class k() { life { set c = c + 1; set c = c * 10 + c; tell it(c, stand(me)); } } start ann = k();")
        _, happening = self.both(world, "ann")
        self.assertIn(("ann", 1, "look", "tell", ("it", 11, 3), 1), happening.touches)

    def test_a_state_that_is_the_same_again(self):
        world = start("class k() { life { set c = 7; set c = 0; set d = 1; hold 0; } } start ann = k();")
        behind, happening = self.both(world, "ann")
        self.assertEqual(happening.founds, (("ann", ("due", 0, 0), 0), ("c", 0, 0), ("d", 5, 0)))
        self.assertEqual((behind.state("c"), behind.number("c")), (0, 2))
        behind, happening = self.both(advance(behind), "ann")
        self.assertEqual(happening.founds, (("ann", ("due", 0, 1), 2),))
        self.assertEqual(happening.time, 0)
        self.assertEqual(happening.stage, 1)

    def test_numbers_go_on(self):
        world = start("class k() { life { set c = c + 1; } } start ann = k(); start bob = k();")
        world, _ = self.both(world, "bob")
        world, happening = self.both(world, "ann")
        self.assertEqual(happening.founds, (("ann", ("due", 0, 0), 0), ("c", 1, 1)))
        self.assertEqual((world.state("c"), world.number("c")), (2, 2))

    def test_what_is_not_due(self):
        text = "class k() { life { sleep; } } start ann = k(); start bob = k() asleep; start cat = k() at 2;"
        world = start(text)
        for life in ("bob", "cat", "zoe", "c", "k", "", "ann:m", "ann.1", "g"):
            self.assertEqual(refusal(happen, world, life), ("NotDue", life))
        behind, _ = self.both(world, "ann")
        self.assertEqual(refusal(happen, behind, "ann"), ("NotDue", "ann"))
        with self.assertRaises(ValueError):
            happen(world, "bob", by="machine")


class OutcomesTest(HappenCase):
    def outcome(self, life, members=""):
        world = start(f"class k() {{ {members} life {{ {life} }} }} start ann = k();")
        behind, happening = self.both(world, "ann")
        return happening.outcome, behind.state("ann"), behind.own_part("ann")

    def test_rests(self):
        for text, state in (("sleep;", ("asleep",)), ("hold 2;", ("due", 2, 0)), ("hold 0;", ("due", 0, 1)),
                            ("wait g;", ("waits", "g"))):
            self.assertEqual(self.outcome(text), (("rest",), state, ("k", (), (("life", 1, ()),), (), None, 0)))
        self.assertEqual(self.outcome("seize 1 of s; seize 2 of s;"),
                         (("rest",), ("waits", "s"), ("k", (), (("life", 2, ()),), (("s", 1),), ("s", 2), 0)))

    def test_ends_and_faults(self):
        over = ("k", (), (), (), None, 0)
        self.assertEqual(self.outcome("leave;"), (("end",), ("ended",), over))
        many = "put 1 into q; " * 21
        for text, fault in (("set c = none + 1;", "kind"), ("set c = 1 / 0;", "zero"), ("set c = 999999999 + 1;", "big"),
                            ("hold 0 - 1;", "early"), ("wake 0;", "nolife"), ("seize 3 of s;", "count"),
                            ("free 1 of s;", "unheld"), (many, "full"), ("while 1 { }", "spent")):
            self.assertEqual(self.outcome(text), (("fall", fault), ("fallen", fault), over))
        self.assertEqual(self.outcome("do e();", "deed e() { do e(); }")[0], ("fall", "deep"))
        self.assertEqual(self.outcome("while 1 { make c = k(); }"),
                         (("fall", "many"), ("fallen", "many"), ("k", (), (), (), None, 9)))

    def test_far(self):
        world = start("class k() { life { make c = k(); wake c; } } start ann = k();")
        for life in ("ann", "ann.1", "ann.1.1"):
            world, happening = self.both(world, life)
            self.assertEqual(happening.outcome, ("end",))
        world, happening = self.both(world, "ann.1.1.1")
        self.assertEqual(happening.outcome, ("fall", "far"))
        self.assertEqual(world.lives(), ["ann", "ann.1", "ann.1.1", "ann.1.1.1"])


class GrantsTest(HappenCase):
    TEXT = """
    class a() { life { seize 2 of s; hold 1; free 1 of s; hold 1; free 1 of s; } }
    class b(n) { life { seize n of s; tell got(now); hold 0; } }
    class e() { life { seize 2 of s; hold 1; } } class f() { life { seize 2 of s; hold 1; set c = 1 / 0; } }
    """

    def waits(self, name):
        """A world at time 1 in which zoe holds the store, and bob and ann wait for a unit each in this order."""
        world = start(self.TEXT + f"start zoe = {name}(); start ann = b(1); start bob = b(1); start cat = b(2);")
        for life in ("zoe", "bob", "ann", "cat"):
            world, _ = self.both(world, life)
        self.assertEqual(world.state("s"), (2, 0, (("zoe", 2),), (("bob", 1), ("ann", 1), ("cat", 2))))
        self.assertEqual(world.coming(), (1, 0))
        return advance(world)

    def test_by_a_free(self):
        world, happening = self.both(self.waits("a"), "zoe")
        self.assertEqual(happening.touches[1:3], (
            ("s", 5, "change", "free", (1,), ("bob",)), ("bob", 3, "change", "grant", (1, 0), 1)))
        self.assertEqual(world.due(), ["bob"])
        world, happening = self.both(world, "bob")
        self.assertEqual(happening.before[3:5], ((), ("s", 1)))
        self.assertEqual(world.own_part("bob")[3:5], ((("s", 1),), None))
        world, happening = self.both(advance(world), "bob")
        self.assertEqual((happening.outcome, world.due(), world.own_part("bob")[3]), (("end",), ["ann"], ()))

    def test_by_an_end_and_by_a_fall(self):
        for name, outcome in (("e", ("end",)), ("f", ("fall", "zero"))):
            world, happening = self.both(self.waits(name), "zoe")
            self.assertEqual(happening.outcome, outcome)
            self.assertEqual([touch[:1] + touch[3:] for touch in happening.touches[1:]], [
                ("s", "free", (2,), ("bob", "ann")), ("bob", "grant", (1, 0), 1), ("ann", "grant", (1, 0), 1),
                ("zoe", outcome[0], outcome[1:], 1)])
            self.assertEqual(world.due(), ["ann", "bob"])
            self.assertEqual(world.state("s"), (2, 0, (("ann", 1), ("bob", 1)), (("cat", 2),)))

    def test_a_gate_that_opens_for_several(self):
        world = start("class k() { life { wait g; tell got(); } } class o() { life { hold 1; open g; } } start ann = k();"
                      "start bob = k(); start cat = k(); start zoe = o();")
        for life in ("cat", "ann", "bob", "zoe"):
            world, _ = self.both(world, life)
        self.assertEqual(world.state("g"), (0, ("cat", "ann", "bob")))
        world, happening = self.both(advance(world), "zoe")
        self.assertEqual(happening.touches[1], ("g", 4, "change", "open", (), ("cat", "ann", "bob")))
        self.assertEqual([touch[0] for touch in happening.touches[2:5]], ["cat", "ann", "bob"])
        self.assertEqual((world.due(), world.state("g")), (["ann", "bob", "cat"], (1, ())))
        self.assertEqual([row[0] for row in happening.founds], ["zoe", "g", "cat", "ann", "bob"])


class MadeLivesTest(HappenCase):
    TEXT = """
    class a() { life { make c = b(now, me); set c.m = 3; wake c; make d = b(2, none); sleep; } }
    class b(p, o) { var v = 4; life { set me.m = me.m + p; make c = e(); wake c; } } class e() { life { leave; } }
    """

    def test_a_life_that_makes_others(self):
        world, happening = self.both(start(self.TEXT + "start ann = a();"), "ann")
        self.assertEqual(happening.touches, (
            ("ann", 1, "change", "run", (0, 0), 1), ("ann.1", 1, "change", "born", ("b", 0, "ann"), 1),
            ("c", 1, "change", "set", ("ann.1",), None), ("c", 1, "look", "look", (), "ann.1"),
            ("ann.1:m", 1, "change", "set", (3,), None), ("c", 1, "look", "look", (), "ann.1"),
            ("ann.1", 2, "change", "wake", (0, 0), 1), ("ann.2", 1, "change", "born", ("b", 2, None), 1),
            ("d", 1, "change", "set", ("ann.2",), None), ("ann", 2, "change", "sleep", (), 1)))
        self.assertEqual(happening.founds, (
            ("ann", ("due", 0, 0), 0), ("ann.1", None, 0), ("c", 0, 0), ("ann.1:m", 8, 0), ("ann.2", None, 0), ("d", 5, 0)))
        self.assertEqual(world.lives(), ["ann", "ann.1", "ann.2"])
        self.assertEqual([thing for thing in world.things() if "ann" in thing],
                         ["ann", "ann.1", "ann.1:m", "ann.2", "ann.2:m", "ann:m"])
        self.assertEqual([world.kind(thing) for thing in ("ann.1", "ann.1:m", "ann.2")], ["stand", "mark", "stand"])
        self.assertEqual((world.state("ann.1"), world.number("ann.1")), (("due", 0, 0), 2))
        self.assertEqual((world.state("ann.2"), world.number("ann.2")), (("asleep",), 1))
        self.assertEqual((world.state("ann.2:m"), world.number("ann.2:m")), (8, 0))
        self.assertEqual((world.state("ann.1:m"), world.number("ann.1:m")), (3, 1))
        self.assertEqual(world.own_part("ann"), ("a", (), (("life", 5, ()),), (), None, 2))
        self.assertEqual(world.own_part("ann.1"), ("b", (0, "ann", 4), (("life", 0, ()),), (), None, 0))

    def test_made_lives_make_others(self):
        world, _ = self.both(start(self.TEXT + "start ann = a();"), "ann")
        world, happening = self.both(world, "ann.1")
        self.assertEqual(world.lives(), ["ann", "ann.1", "ann.1.1", "ann.2"])
        self.assertEqual(happening.founds[1:], (("ann.1.1", None, 0), ("c", "ann.1", 1)))
        self.assertEqual((world.own_part("ann.1")[5], world.due()), (1, ["ann.1.1"]))
        world, happening = self.both(world, "ann.1.1")
        self.assertEqual(world.state("ann.1.1"), ("ended",))

    def test_a_made_life_that_falls_with_its_maker_stays(self):
        world, happening = self.both(start("class k() { life { make c = k(); set c = 1 / 0; } } start ann = k();"), "ann")
        self.assertEqual(happening.outcome, ("fall", "zero"))
        self.assertEqual((world.lives(), world.state("ann.1")), (["ann", "ann.1"], ("asleep",)))

    def test_a_mark_of_a_made_life_that_is_the_same_again(self):
        world = start("class k() { life { make c = k(); set c.m = 1; set c.m = 8; } } start ann = k();")
        world, happening = self.both(world, "ann")
        self.assertEqual(happening.founds[3], ("ann.1:m", 8, 0))
        self.assertEqual((world.state("ann.1:m"), world.number("ann.1:m")), (8, 2))


class NamesOfStatesTest(HappenCase):
    """Lives whose names are words of states, as the values of a line that has the form of such a state."""

    def test_a_line_that_looks_like_a_stand(self):
        for life in ("unborn", "running", "ended"):
            world = start(f"class k() {{ life {{ put me into q; }} }} start {life} = k(); start zoe = k();")
            world, happening = self.both(world, life)
            self.assertEqual(happening.founds, ((life, ("due", 0, 0), 0), ("q", (), 0)))
            world, happening = self.both(world, "zoe")
            self.assertEqual(happening.founds, (("zoe", ("due", 0, 0), 0), ("q", (life,), 1)))

    def test_a_line_that_looks_like_a_stand_beside_a_made_life(self):
        world = start("class k() { life { put me into q; make c = e(); put c into q; } } class e() { }"
                      "start unborn = k(); start zoe = k();")
        world, _ = self.both(world, "unborn")
        world, _ = self.both(world, "zoe")
        self.assertEqual(world.state("q"), ("unborn", "unborn.1", "zoe", "zoe.1"))
        world = start("class k() { life { take c from q; put unborn into q; make c = e(); take c from q; } } class e() { }"
                      "class p() { life { put me into q; } } start unborn = p(); start zoe = k();")
        world, _ = self.both(world, "unborn")
        world, happening = self.both(world, "zoe")
        self.assertEqual(happening.founds, (
            ("zoe", ("due", 0, 0), 0), ("q", ("unborn",), 1), ("c", 0, 0), ("zoe.1", None, 0)))

    def test_a_line_of_due_and_a_moment_is_no_stand(self):
        world = start("class k() { life { put due into q; put 0 into q; put 0 into q; } } start zoe = k();"
                      "start due = k() asleep;")
        world, _ = self.both(world, "zoe")
        self.assertEqual((world.state("q"), world.due(), world.coming()), (("due", 0, 0), [], None))


class MachineTest(HappenCase):
    def test_the_machine_alone_runs_compiled_rows(self):
        program = read_program("class k() { life { sleep; } } start ann = k();")
        program.compiled[("k", "life")] = ((("count",), ("leave",), ("end",)), (2,))
        world = start_world(program)
        self.assertEqual(happen(world, "ann", by="machine")[1].outcome, ("end",))
        self.assertEqual(happen(world, "ann", by="reader")[1].outcome, ("rest",))
        self.assertEqual(happen(world, "ann")[1].outcome, ("rest",))
        self.assertEqual(run(world, by="machine").happenings[0].outcome, ("end",))
        self.assertEqual(run(world).happenings[0].outcome, ("rest",))
        self.assertEqual(follow(world, ["ann"], by="machine")[1][0].outcome, ("end",))
        self.assertEqual(follow(world, ["ann"])[1][0].outcome, ("rest",))


class RandomTest(HappenCase):
    def test_random_happenings(self):
        for seed in range(60):
            chance = random.Random(seed)
            for text in (random_program_text(chance), calm_program_text(chance)):
                world = start_world(read_program(text))
                for _ in range(25):
                    if world.coming() is None:
                        break
                    world = advance(world)
                    world, _ = self.both(world, chance.choice(world.due()))


if __name__ == "__main__":
    unittest.main()
