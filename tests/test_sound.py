"""Point 61."""

import random
import unittest

from tests.chance import calm_program_text, random_program_text
from tests.plain import changed
from wokenlives.happenings import happen
from wokenlives.programs import read_program
from wokenlives.runs import follow
from wokenlives.sound import broken_rule
from wokenlives.worlds import advance, start_world

TEXT = """
cell c = 0; line q; store s = 3; store t = 2; gate g shut; gate f open; wheel w = 4; mark m = 0;
class k(n) within o { life { seize n of s; hold 2; } }
class o() { var v = 0; deed d(a, b) { hold a; seize 1 of t; wait g; } deed e() { do d(1, 2); sleep; }
  life { make v = p(); inner; do d(0, now); sleep; } }
class p() { life { wait g; } }
class h() { life { seize 2 of s; hold 5; } }
start ann = k(2); start bob = k(2); start cat = p(); start dan = h() asleep; start eve = p(); start fay = h() at 9;
"""
FRONT = ("life", 0, ())


def sound_world():
    """At time 0: ann holds 2 units of s and is due later, bob waits for 2 units of s, cat and eve wait at the gate g."""
    world, _ = follow(start_world(read_program(TEXT)), ["ann", "bob", "cat", "eve"])
    return world


class Narrow:
    """A world by nothing but what the interface lists."""

    def __init__(self, world):
        self.program, self.time, self.stage = world.program, world.time, world.stage
        for name in ("things", "lives", "due", "kind", "state", "number", "own_part", "coming"):
            setattr(self, name, getattr(world, name))


class SoundCase(unittest.TestCase):
    def setUp(self):
        self.world = sound_world()

    def rule(self, states=(), owns=(), moment=None, gone=()):
        """The broken rule of the world with these changes."""
        world = changed(self.world, states, owns, moment, gone)
        found = broken_rule(world)
        self.assertEqual(broken_rule(Narrow(world)), found)
        return found

    def own(self, life, **parts):
        """An own part of the world with these parts changed, as a dict."""
        names = ("name", "fields", "frames", "held", "asked", "made")
        own = dict(zip(names, self.world.own_part(life)))
        own.update(parts)
        return {life: tuple(own[name] for name in names)}


class SoundWorldsTest(SoundCase):
    def test_what_the_tests_begin_with(self):
        world = self.world
        self.assertEqual(world.state("s"), (3, 1, (("ann", 2),), (("bob", 2),)))
        self.assertEqual(world.state("g"), (0, ("cat", "eve")))
        self.assertEqual(world.own_part("ann"), ("k", (2, "ann.1"), (("life", 3, ()),), (("s", 2),), None, 1))
        self.assertEqual(world.own_part("bob"), ("k", (2, "bob.1"), (("life", 2, ()),), (), ("s", 2), 1))
        self.assertEqual(self.rule(), 0)

    def test_start_worlds(self):
        self.assertEqual(broken_rule(start_world(read_program(TEXT))), 0)
        self.assertEqual(broken_rule(start_world(read_program(""))), 0)
        self.assertEqual(broken_rule(start_world(read_program("cell c = 1; gate g open; class k() { }"))), 0)

    def test_worlds_behind_happenings(self):
        for seed in range(60):
            chance = random.Random(seed)
            for text in (random_program_text(chance), calm_program_text(chance)):
                world = start_world(read_program(text))
                self.assertEqual(broken_rule(world), 0)
                for _ in range(25):
                    if world.coming() is None:
                        break
                    world = advance(world)
                    world, _ = happen(world, chance.choice(world.due()))
                    self.assertEqual(broken_rule(world), 0)

    def test_other_sound_worlds(self):
        self.assertEqual(self.rule(moment=(2, 0)), 0)
        self.assertEqual(self.rule({"q": (1, None, "ann.1") + (0,) * 17, "c": "bob.1", "ann:m": None}), 0)
        self.assertEqual(self.rule({"w": (4, 3)}), 0)
        self.assertEqual(self.rule({"dan": ("due", 0, 10 ** 12)}), 0)
        self.assertEqual(self.rule({"ann": ("due", 0, 1)}), 0)


class RuleOneTest(SoundCase):
    def test_lives_that_are_missing(self):
        self.assertEqual(self.rule(gone=("dan", "dan:m")), 1)
        self.assertEqual(self.rule(gone=("ann.1", "ann.1:m")), 1)

    def test_lives_that_are_too_many(self):
        own = self.world.own_part("ann.1")
        self.assertEqual(self.rule({"ann.2": ("asleep",), "ann.2:m": 0}, {"ann.2": own}), 1)
        self.assertEqual(self.rule({"zoe": ("asleep",), "zoe:m": 0}, {"zoe": own}), 1)
        self.assertEqual(self.rule({"zoe.1": ("asleep",), "zoe.1:m": 0}, {"zoe.1": own}), 1)

    def test_made(self):
        for made in (0, 2, -1, 10):
            self.assertEqual(self.rule(owns=self.own("ann", made=made)), 1)
        owns = self.own("ann", made=9)
        states = {}
        for number in range(2, 10):
            owns[f"ann.{number}"] = self.world.own_part("ann.1")
            states[f"ann.{number}"], states[f"ann.{number}:m"] = ("asleep",), 0
        self.assertEqual(self.rule(states, owns), 0)
        owns["ann.10"], states["ann.10"], states["ann.10:m"] = owns["ann.9"], ("asleep",), 0
        self.assertEqual(self.rule(states, owns), 1)
        owns["ann"] = self.own("ann", made=10)["ann"]
        self.assertEqual(self.rule(states, owns), 1)

    def test_dots(self):
        owns, states = {}, {}
        child = self.world.own_part("ann.1")
        for name in ("ann.1", "ann.1.1"):
            owns[name] = child[:5] + (1,)
        owns["ann.1.1.1"] = child
        for name in ("ann.1.1", "ann.1.1.1"):
            states[name], states[name + ":m"] = ("asleep",), 0
        self.assertEqual(self.rule(states, owns), 0)
        owns["ann.1.1.1"] = child[:5] + (1,)
        owns["ann.1.1.1.1"] = child
        states["ann.1.1.1.1"], states["ann.1.1.1.1:m"] = ("asleep",), 0
        self.assertEqual(self.rule(states, owns), 1)

    def test_classes(self):
        self.assertEqual(self.rule(owns=self.own("dan", name="zoe")), 1)
        self.assertEqual(self.rule(owns=self.own("dan", name="p")), 1)
        self.assertEqual(self.rule(owns=self.own("ann.1", name="s")), 1)
        self.assertEqual(self.rule(owns=self.own("ann.1", name="h")), 0)

    def test_fields(self):
        self.assertEqual(self.rule(owns=self.own("ann", fields=(2,))), 1)
        self.assertEqual(self.rule(owns=self.own("ann", fields=(2, 3, 4))), 1)
        self.assertEqual(self.rule(owns=self.own("ann.1", fields=(2,))), 1)
        self.assertEqual(self.rule(owns=self.own("ann.1", name="k")), 1)


class RuleTwoTest(SoundCase):
    def test_stands(self):
        for life in ("ann", "dan", "ann.1"):
            self.assertEqual(self.rule({life: ("unborn",)}), 2)
            self.assertEqual(self.rule({life: ("running",)}), 2)
        self.assertEqual(self.rule(moment=(2, 1)), 2)
        self.assertEqual(self.rule(moment=(3, 0)), 2)
        self.assertEqual(self.rule({"dan": ("due", 1, 5)}, moment=(1, 6)), 2)
        self.assertEqual(self.rule({"dan": ("due", 1, 5)}, moment=(1, 5)), 0)


class RuleThreeTest(SoundCase):
    def test_things_that_are_waited_for(self):
        for thing in ("c", "q", "w", "nowhere", "ann", "m", "k", ""):
            self.assertEqual(self.rule({"dan": ("waits", thing)}), 3, thing)

    def test_who_waits(self):
        self.assertEqual(self.rule({"dan": ("waits", "g")}), 3)
        self.assertEqual(self.rule({"dan": ("waits", "s")}), 3)
        self.assertEqual(self.rule({"g": (0, ("cat",))}), 3)
        self.assertEqual(self.rule({"g": (0, ("cat", "eve", "cat"))}), 3)
        self.assertEqual(self.rule({"g": (0, ("cat", "eve", "dan"))}), 3)
        self.assertEqual(self.rule({"g": (0, ("cat", "eve", "zoe"))}), 3)
        self.assertEqual(self.rule({"g": (0, ("eve", "cat"))}), 0)
        self.assertEqual(self.rule({"s": (3, 1, (("ann", 2),), ())}), 3)
        self.assertEqual(self.rule({"s": (3, 1, (("ann", 2),), (("bob", 2), ("bob", 2)))}), 3)
        self.assertEqual(self.rule({"bob": ("waits", "t")}), 3)


class RuleFourTest(SoundCase):
    def store(self, *state):
        return self.rule({"s": state})

    def test_size_and_free(self):
        bob = (("bob", 2),)
        self.assertEqual(self.store(4, 2, (("ann", 2),), (("bob", 3),)), 4)
        self.assertEqual(self.store(2, 0, (("ann", 2),), bob), 4)
        self.assertEqual(self.store(3, -1, (("ann", 4),), bob), 4)
        self.assertEqual(self.store(3, 0, (("ann", 2),), bob), 4)
        self.assertEqual(self.store(3, 1, (("ann", 3),), bob), 4)
        self.assertEqual(self.rule({"t": (2, 1, (), ())}), 4)
        self.assertEqual(self.rule({"t": (1, 1, (), ())}), 4)

    def test_holders(self):
        bob = (("bob", 2),)
        self.assertEqual(self.store(3, 1, (("dan", 1), ("ann", 1)), bob), 4)
        self.assertEqual(self.store(3, 1, (("ann", 1), ("ann", 1)), bob), 4)
        self.assertEqual(self.store(3, 1, (("ann", 1), ("zoe", 1)), bob), 4)
        self.assertEqual(self.store(3, 1, (("ann", 2), ("dan", 0)), bob), 4)
        self.assertEqual(self.store(3, 1, (("ann", 3), ("dan", -1)), bob), 4)

    def test_waiting(self):
        holders = (("ann", 2),)
        for units in (0, -1, 4):
            self.assertEqual(self.store(3, 1, holders, (("bob", units),)), 4)
        self.assertEqual(self.store(3, 1, holders, (("bob", 1),)), 4)
        self.assertEqual(self.store(3, 0, (("ann", 3),), (("bob", 1),)), 7)


class RuleFiveTest(SoundCase):
    def test_gates(self):
        self.assertEqual(self.rule({"f": (2, ())}), 5)
        self.assertEqual(self.rule({"f": (-1, ())}), 5)
        self.assertEqual(self.rule({"g": (1, ("cat", "eve"))}), 5)
        self.assertEqual(self.rule({"f": (0, ())}), 0)


class RuleSixTest(SoundCase):
    def test_wheels_and_lines(self):
        for state in ((4, 4), (4, -1), (3, 0), (5, 0)):
            self.assertEqual(self.rule({"w": state}), 6, state)
        self.assertEqual(self.rule({"q": (0,) * 20}), 0)
        self.assertEqual(self.rule({"q": (0,) * 21}), 6)


class RuleSevenTest(SoundCase):
    def test_forms(self):
        for held in ((("zoe", 1),), (("g", 1), ("s", 2)), (("s", 2), ("s", 1)), (("s", 0),), (("s", 2), ("t", 0)),
                     (("s", 2), ("t", -1))):
            self.assertEqual(self.rule(owns=self.own("ann", held=held)), 7, held)
        states = {"t": (2, 1, (("ann", 1),), ())}
        self.assertEqual(self.rule(states, self.own("ann", held=(("s", 2), ("t", 1)))), 0)
        self.assertEqual(self.rule(states, self.own("ann", held=(("t", 1), ("s", 2)))), 7)
        for asked in (("zoe", 1), ("q", 1), ("t", 0), ("t", -2)):
            self.assertEqual(self.rule(owns=self.own("dan", asked=asked)), 7, asked)

    def test_units_below_1_that_others_make_up_for(self):
        states = {"t": (2, 1, (("dan", 1),), ())}
        self.assertEqual(self.rule(states, self.own("dan", held=(("t", 1),))), 0)
        self.assertEqual(self.rule(states, self.own("dan", held=(("t", 2),), asked=("t", -1))), 7)
        self.assertEqual(self.rule(states, self.own("dan", held=(("t", -1),), asked=("t", 2))), 7)

    def test_asked(self):
        for asked in (None, ("s", 1), ("s", 3), ("t", 2)):
            self.assertEqual(self.rule(owns=self.own("bob", asked=asked)), 7, asked)
        for asked in (("s", 1), ("t", 1)):
            self.assertEqual(self.rule(owns=self.own("cat", asked=asked)), 7, asked)

    def test_units(self):
        self.assertEqual(self.rule(owns=self.own("ann", held=())), 7)
        self.assertEqual(self.rule(owns=self.own("ann", held=(("s", 1),))), 7)
        self.assertEqual(self.rule(owns=self.own("ann", held=(("s", 3),))), 7)
        self.assertEqual(self.rule(owns=self.own("dan", held=(("t", 1),))), 7)
        self.assertEqual(self.rule({"s": (3, 0, (("ann", 2), ("dan", 1)), (("bob", 2),))}), 7)
        self.assertEqual(self.rule({"s": (3, 0, (("ann", 2), ("dan", 1)), (("bob", 2),))}, self.own("dan", held=(("s", 1),))), 0)
        self.assertEqual(self.rule({"s": (3, 3, (), ()), "bob": ("asleep",)}, {**self.own("ann", held=()), **self.own("bob")}), 7)

    def test_units_to_take_over(self):
        states = {"s": (3, 1, (("bob", 2),), ()), "bob": ("due", 0, 0)}
        owns = self.own("ann", held=())
        self.assertEqual(self.rule(states, owns), 0)
        states["bob"] = ("asleep",)
        self.assertEqual(self.rule(states, owns), 0)
        owns.update(self.own("bob", held=(("s", 2),)))
        self.assertEqual(self.rule(states, owns), 7)
        owns.update(self.own("bob", held=(("s", 2),), asked=None))
        self.assertEqual(self.rule(states, owns), 0)
        owns.update(self.own("bob", held=(("s", 1),), asked=("s", 1)))
        self.assertEqual(self.rule(states, owns), 0)
        # Units that are waited for count beside those that are held.
        owns = {**self.own("ann", held=(("s", 1),)), **self.own("bob", held=(("s", 1),))}
        self.assertEqual(self.rule({"s": (3, 1, (("ann", 1), ("bob", 1)), (("bob", 2),))}, owns), 0)


class RuleEightTest(SoundCase):
    # The flat life of k: make, seize, hold, do, sleep. The deeds: d is hold, seize, wait; e is do, sleep.
    def frames(self, life, *frames):
        return self.rule(owns=self.own(life, frames=frames))

    def test_lives_that_are_over(self):
        for stand in (("ended",), ("fallen", "kind")):
            self.assertEqual(self.rule({"dan": stand}, self.own("dan", frames=())), 0)
            self.assertEqual(self.rule({"dan": stand}), 8)
            self.assertEqual(self.rule({"dan": stand, "t": (2, 1, (("dan", 1),), ())},
                                       self.own("dan", frames=(), held=(("t", 1),))), 8)
            self.assertEqual(self.rule({"dan": stand, "t": (2, 1, (("dan", 1),), ())},
                                       self.own("dan", frames=(), asked=("t", 1))), 8)

    def test_the_number_of_frames(self):
        self.assertEqual(self.frames("dan"), 8)
        world = start_world(read_program("start a = k(); class k() { deed d() { do d(); sleep; } life { do d(); } }"))
        for many in range(12):
            own = ("k", (), (("life", 1, ()),) + (("d", 1, ()),) * many + (("d", 2, ()),), (), None, 0)
            self.assertEqual(broken_rule(changed(world, owns={"a": own})), 0 if many <= 6 else 8)

    def test_the_first_frame(self):
        self.assertEqual(self.frames("dan", FRONT), 0)
        self.assertEqual(self.frames("dan", ("life", 2, ())), 0)
        self.assertEqual(self.frames("dan", ("life", 0, (1,))), 8)
        self.assertEqual(self.frames("ann", ("d", 1, (1, 2))), 8)
        self.assertEqual(self.frames("ann", ("zoe", 1, ())), 8)

    def test_the_other_frames(self):
        self.assertEqual(self.frames("ann", ("life", 4, ()), ("d", 1, (1, 2))), 0)
        self.assertEqual(self.frames("ann", ("life", 4, ()), ("d", 2, (1, 2))), 0)
        self.assertEqual(self.frames("ann", ("life", 4, ()), ("d", 3, (1, 2))), 0)
        self.assertEqual(self.frames("ann", ("life", 4, ()), ("d", 1, (1,))), 8)
        self.assertEqual(self.frames("ann", ("life", 4, ()), ("d", 1, (1, 2, 3))), 8)
        self.assertEqual(self.frames("ann", ("life", 4, ()), ("e", 2, ())), 8)
        self.assertEqual(self.frames("ann", ("life", 4, ()), ("zoe", 2, ())), 8)
        self.assertEqual(self.frames("ann", ("life", 4, ()), ("life", 5, ())), 8)
        self.assertEqual(self.frames("ann", ("life", 3, ()), ("d", 1, (1, 2))), 8)
        self.assertEqual(self.frames("ann", ("life", 0, ()), ("d", 1, (1, 2))), 8)
        self.assertEqual(self.frames("ann", ("life", 4, ()), ("e", 1, ()), ("d", 1, (1, 2))), 8)
        # A class that is not within the class of the deed does not have it.
        self.assertEqual(self.frames("dan", ("life", 1, ()), ("d", 1, (1, 2))), 8)

    def test_where_the_innermost_frame_stands(self):
        for at, rule in ((-1, 8), (0, 0), (1, 8), (2, 0), (3, 0), (4, 8), (5, 0), (6, 8), (7, 8)):
            self.assertEqual(self.frames("ann", ("life", at, ())), rule, at)
        for at, rule in ((-1, 8), (0, 8), (1, 0), (2, 0), (3, 0), (4, 8)):
            self.assertEqual(self.frames("ann", ("life", 4, ()), ("d", at, (1, 2))), rule, at)

    def test_where_a_life_that_waits_stands(self):
        self.assertEqual(self.frames("bob", ("life", 3, ())), 8)
        self.assertEqual(self.frames("bob", FRONT), 8)
        self.assertEqual(self.frames("bob", ("life", 4, ()), ("d", 2, (0, 0))), 8)
        self.assertEqual(self.frames("cat", FRONT), 8)
        states = {"ann": ("waits", "g"), "g": (0, ("cat", "eve", "ann"))}
        owns = self.own("ann", frames=(("life", 4, ()), ("d", 3, (0, 0))))
        self.assertEqual(self.rule(states, owns), 0)
        owns = self.own("ann", frames=(("life", 4, ()), ("d", 2, (0, 0))))
        self.assertEqual(self.rule(states, owns), 8)

    def test_where_a_life_that_has_asked_stands(self):
        states = {"s": (3, 1, (("bob", 2),), ()), "bob": ("due", 0, 0)}
        owns = self.own("ann", held=())
        self.assertEqual(self.rule(states, owns), 0)
        for frames in ((("life", 3, ()),), (FRONT,), (("life", 4, ()), ("d", 2, (0, 0)))):
            owns.update(self.own("bob", frames=frames))
            self.assertEqual(self.rule(states, owns), 8)


class RuleNineTest(SoundCase):
    def test_values(self):
        for value, rule in ((999999999, 0), (-999999999, 0), (10 ** 9, 9), (-10 ** 9, 9), (None, 0), ("ann", 0),
                            ("ann.1", 0), ("zoe", 9), ("ann.2", 9), ("c", 9), ("", 9), ("k", 9)):
            self.assertEqual(self.rule({"c": value}), rule, value)
            self.assertEqual(self.rule({"bob.1:m": value}), rule, value)
            self.assertEqual(self.rule({"q": (0, value, 1)}), rule, value)
            self.assertEqual(self.rule(owns=self.own("ann", fields=(1, value))), rule, value)
            frames = (("life", 4, ()), ("d", 1, (0, value)))
            self.assertEqual(self.rule(owns=self.own("ann", frames=frames)), rule, value)


class LeastRuleTest(SoundCase):
    def test_each_rule_with_each_later_one(self):
        breaks = {
            1: ({}, self.own("ann", made=0)),
            2: ({"dan": ("running",)}, {}),
            3: ({"g": (0, ("cat", "eve", "zoe"))}, {}),
            4: ({"t": (2, 1, (), ())}, {}),
            5: ({"f": (3, ())}, {}),
            6: ({"w": (4, 4)}, {}),
            7: ({}, self.own("fay", held=(("t", 1),))),
            8: ({}, self.own("eve", frames=())),
            9: ({"c": "zoe"}, {}),
        }
        for first, (states, owns) in breaks.items():
            self.assertEqual(self.rule(states, owns), first)
            for second, (others, parts) in breaks.items():
                self.assertEqual(self.rule({**states, **others}, {**owns, **parts}), min(first, second))
        together = [{}, {}]
        for rule in sorted(breaks, reverse=True):
            together[0].update(breaks[rule][0])
            together[1].update(breaks[rule][1])
            self.assertEqual(self.rule(*together), rule)


if __name__ == "__main__":
    unittest.main()
