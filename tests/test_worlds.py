"""Points 53, 54 and 57."""

import unittest

from tests.plain import changed, whole
from tests.texts import refusal
from wokenlives.happenings import happen
from wokenlives.programs import read_program
from wokenlives.worlds import World, advance, start_world

TEXT = """
start cat = k(4, -1) at 7; cell num = -3; class k(p) within b { var v = 9; life { sleep; } } line queue; store tool = 2;
start ann = k(1, 2); gate door open; class b(q) { } gate gap shut; wheel turn = 5; mark pace = 6; mark age = -1;
start bob = b(0) asleep; start dan = b(3) at 0;
"""
LATE = "class k() { life { set c = now; hold 3; set c = now; hold 0; set c = 7; } } cell c = 0;"


class StartWorldTest(unittest.TestCase):
    def setUp(self):
        self.program = read_program(TEXT)
        self.world = start_world(self.program)

    def test_what_it_is(self):
        self.assertIsInstance(self.world, World)
        self.assertEqual(self.world.program, self.program)
        self.assertEqual((self.world.time, self.world.stage), (0, 0))

    def test_names_in_ascending_order(self):
        self.assertEqual(self.world.lives(), ["ann", "bob", "cat", "dan"])
        self.assertEqual(self.world.due(), ["ann", "dan"])
        self.assertEqual(self.world.things(), [
            "ann", "ann:age", "ann:pace", "bob", "bob:age", "bob:pace", "cat", "cat:age", "cat:pace", "dan", "dan:age",
            "dan:pace", "door", "gap", "num", "queue", "tool", "turn"])

    def test_things(self):
        for thing, kind, state in (
            ("ann", "stand", ("due", 0, 0)), ("bob", "stand", ("asleep",)), ("cat", "stand", ("due", 7, 0)),
            ("dan", "stand", ("due", 0, 0)), ("num", "cell", -3), ("queue", "line", ()), ("tool", "store", (2, 2, (), ())),
            ("door", "gate", (1, ())), ("gap", "gate", (0, ())), ("turn", "wheel", (5, 0)), ("ann:pace", "mark", 6),
            ("bob:age", "mark", -1),
        ):
            self.assertEqual((self.world.kind(thing), self.world.state(thing)), (kind, state))
        self.assertEqual([self.world.number(thing) for thing in self.world.things()], [0] * 18)

    def test_own_parts(self):
        front = (("life", 0, ()),)
        self.assertEqual(self.world.own_part("ann"), ("k", (1, 2, 9), front, (), None, 0))
        self.assertEqual(self.world.own_part("bob"), ("b", (0,), front, (), None, 0))
        self.assertEqual(self.world.own_part("cat"), ("k", (4, -1, 9), front, (), None, 0))

    def test_lists_are_new_ones(self):
        before = whole(self.world)
        for made in (self.world.things, self.world.lives, self.world.due):
            found = made()
            self.assertIsInstance(found, list)
            found.clear()
        self.assertEqual(whole(self.world), before)
        self.assertEqual(self.world.due(), ["ann", "dan"])

    def test_a_program_without_a_start(self):
        world = start_world(read_program("cell c = 1; class k() { }"))
        self.assertEqual((world.things(), world.lives(), world.due(), world.coming()), (["c"], [], [], None))
        self.assertEqual(refusal(advance, world), ("Quiet",))
        world = start_world(read_program(""))
        self.assertEqual((world.things(), world.lives(), world.due(), world.coming()), ([], [], [], None))

    def test_the_program_stays_as_it_is(self):
        kept = (self.program.tree, dict(self.program.kinds), dict(self.program.flats))
        happen(self.world, "ann")
        self.assertEqual((self.program.tree, self.program.kinds, self.program.flats), kept)


class AdvanceTest(unittest.TestCase):
    def test_a_later_moment_is_not_due_yet(self):
        world = start_world(read_program(LATE + "start ann = k() at 4; start bob = k() at 6; start cat = k() asleep;"))
        self.assertEqual((world.due(), world.coming()), ([], (4, 0)))
        before = whole(world)
        behind = advance(world)
        self.assertEqual(whole(world), before)
        self.assertEqual((behind.time, behind.stage, behind.due(), behind.coming()), (4, 0, ["ann"], (4, 0)))
        self.assertEqual(whole(behind)[2:], before[2:])

    def test_a_world_with_a_due_life_stays_as_it_is(self):
        world = start_world(read_program(LATE + "start ann = k(); start bob = k() at 6;"))
        self.assertEqual(whole(advance(world)), whole(world))
        self.assertEqual(whole(advance(advance(world))), whole(world))

    def test_times_and_stages(self):
        world = start_world(read_program(LATE + "start ann = k(); start bob = k() at 3;"))
        moments = []
        for life in ("ann", "ann", "bob", "ann", "bob", "bob"):
            world = advance(world)
            moments.append((world.time, world.stage, world.due()))
            world, _ = happen(world, life)
        self.assertEqual(moments, [(0, 0, ["ann"]), (3, 0, ["ann", "bob"]), (3, 0, ["bob"]), (3, 1, ["ann"]), (6, 0, ["bob"]),
                                   (6, 1, ["bob"])])
        self.assertEqual(world.coming(), None)
        self.assertEqual((world.time, world.stage), (6, 1))
        self.assertEqual(refusal(advance, world), ("Quiet",))

    def test_stages_come_behind_times(self):
        world = start_world(read_program(LATE + "start ann = k(); start bob = k();"))
        world = changed(world, {"ann": ("due", 2, 0), "bob": ("due", 1, 10 ** 12)})
        self.assertEqual(world.coming(), (1, 10 ** 12))
        self.assertEqual(advance(world).due(), ["bob"])
        world = changed(world, {"ann": ("due", 2, 3), "bob": ("due", 2, 10)})
        self.assertEqual(advance(world).due(), ["ann"])

    def test_quiet_worlds(self):
        world = start_world(read_program("start ann = k() asleep; class k() { }"))
        self.assertEqual((world.coming(), world.due()), (None, []))
        self.assertEqual(refusal(advance, world), ("Quiet",))


if __name__ == "__main__":
    unittest.main()
