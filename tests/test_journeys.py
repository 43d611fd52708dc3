"""Points 81 and 82."""

import random
import unittest

from tests.chance import calm_program_text, random_program_text
from tests.crowds import start
from tests.plain import told_happening, whole
from tests.texts import refusal
from wokenlives.happenings import Happening, happen
from wokenlives.journeys import Journey, take_back
from wokenlives.runs import follow, run
from wokenlives.worlds import World, advance
from wokenlives.worldtext import write_world

ITEMS = "cell c = 0; cell none1 = 4; line q; store s = 2; gate g shut; wheel w = 3; mark m = 8; "


def limited(journey, names):
    """What go_all raises, or None."""
    return refusal(journey.go_all, names)


class TakeBackTest(unittest.TestCase):
    def back(self, world, life):
        """Make a happening in an advanced world and take it back; the world behind it."""
        before = whole(world)
        behind, happening = happen(world, life)
        after = whole(behind)
        found = take_back(behind, happening)
        self.assertIsInstance(found, World)
        self.assertEqual(whole(found), before)
        self.assertEqual(write_world(found), write_world(world))
        self.assertEqual((whole(behind), whole(world)), (after, before))
        if behind.coming() is not None:
            self.assertEqual(whole(take_back(advance(behind), happening)), before)
        return behind

    def test_one_change(self):
        self.back(start(ITEMS + "class k() { life { set c = 1; hold 4; } } start ann = k();"), "ann")

    def test_a_thing_changed_twice(self):
        self.back(start(ITEMS + "class k() { life { set c = 1; set c = 2; set c = 3; } } start ann = k();"), "ann")

    def test_states_that_are_the_same_again(self):
        world = start(ITEMS + "class k() { life { set c = 1; set c = 0; wake bob; stop bob; } } start ann = k(); start bob = k() asleep;")
        behind = self.back(world, "ann")
        self.assertEqual((behind.state("c"), behind.number("c")), (0, 2))

    def test_made_lives(self):
        world = start(ITEMS + """class k() { life { make c = e(); set c.m = none; wake c; make c = e(); set me.m = c; } }
        class e() { life { make c = e(); } } start ann = k();""")
        behind = self.back(world, "ann")
        self.assertEqual(behind.lives(), ["ann", "ann.1", "ann.2"])
        behind = self.back(behind, "ann.1")
        self.assertIn("ann.1.1:m", behind.things())

    def test_things_whose_value_was_none(self):
        world = start(ITEMS + """class k() { life { set c = none; set me.m = none; sleep; set c = 5; set me.m = 6; make c = e(); } }
        class e() { } class o() { life { wake ann; } } start ann = k(); start bob = o();""")
        world, _ = follow(world, ["ann", "bob"])
        self.assertEqual((world.state("c"), world.state("ann:m")), (None, None))
        behind = self.back(world, "ann")
        self.assertEqual(behind.lives(), ["ann", "ann.1", "bob"])

    def test_a_line_that_looks_like_a_stand(self):
        world = start(ITEMS + """class k() { life { put me into q; make c = e(); } } class e() { }
        start unborn = k(); start zoe = k();""")
        behind = self.back(world, "unborn")
        behind = self.back(behind, "zoe")
        self.assertEqual(behind.state("q"), ("unborn", "zoe"))

    def test_ends_and_falls(self):
        self.back(start(ITEMS + "class k() { life { seize 1 of s; leave; } } start ann = k();"), "ann")
        self.back(start(ITEMS + "class k() { life { make c = k(); seize 1 of s; set c = 1 / 0; } } start ann = k();"),
                  "ann")

    def test_the_moment_is_that_of_the_happening(self):
        world = advance(start(ITEMS + "class k() { life { hold 3; } } start ann = k() at 5;"))
        behind, happening = happen(world, "ann")
        self.assertEqual((advance(behind).time, take_back(advance(behind), happening).time), (8, 5))

    def test_random_happenings(self):
        for seed in range(60):
            chance = random.Random(seed)
            for text in (random_program_text(chance), calm_program_text(chance)):
                world = start(text)
                for _ in range(20):
                    if world.coming() is None:
                        break
                    world = advance(world)
                    world = self.back(world, chance.choice(world.due()))


class JourneyCase(unittest.TestCase):
    TEXT = """cell c = 0; class k(n) { life { while n > 0 { set n = n - 1; set c = c + 1; tell step(n, c); hold 2; } } }
    start bob = k(2); start ann = k(1); start cat = k(1) at 1; start dan = k(9) asleep;"""
    STEPS = ["ann", "bob", "cat", "ann", "bob", "cat", "bob"]

    def told(self, journey):
        """All that a journey shows."""
        return (whole(journey.world), [told_happening(row) for row in journey.happenings], journey.names(),
                journey.text())


class JourneyTest(JourneyCase):
    def test_where_it_begins(self):
        world = start(self.TEXT)
        journey = Journey(world)
        self.assertEqual((whole(journey.world), journey.happenings, journey.names()), (whole(world), [], []))
        self.assertEqual(journey.text(), write_world(world))
        later = start("class k() { } start ann = k() at 3;")
        self.assertEqual(whole(Journey(later).world), whole(advance(later)))
        self.assertEqual(later.time, 0)
        quiet = start("class k() { } start ann = k() asleep;")
        self.assertEqual(whole(Journey(quiet).world), whole(quiet))
        self.assertEqual(whole(Journey(advance(later)).world), whole(advance(later)))

    def test_going_with_a_name(self):
        journey = Journey(start(self.TEXT))
        happening = journey.go("bob")
        self.assertIsInstance(happening, Happening)
        self.assertEqual((happening.life, happening.time, journey.world.due()), ("bob", 0, ["ann"]))
        journey.go("ann")
        # The world is advanced.
        self.assertEqual((journey.world.time, journey.world.due(), journey.names()), (1, ["cat"], ["bob", "ann"]))
        self.assertEqual([row.life for row in journey.happenings], ["bob", "ann"])
        self.assertEqual(told_happening(journey.happenings[0]), told_happening(happening))

    def test_lives_that_are_not_due(self):
        journey = Journey(start(self.TEXT))
        journey.go("ann")
        before = self.told(journey)
        for life in ("ann", "cat", "dan", "zoe", "c", "", "ann:m"):
            self.assertEqual(refusal(journey.go, life), ("NotDue", life))
            self.assertEqual(self.told(journey), before)

    def test_a_quiet_world(self):
        journey = Journey(start("class k() { } start ann = k();"))
        journey.go("ann")
        self.assertIsNone(journey.world.coming())
        before = self.told(journey)
        self.assertEqual(refusal(journey.go, "ann"), ("NotDue", "ann"))
        self.assertEqual(limited(journey, ["ann"]), ("NoCourse", 0))
        self.assertEqual(journey.go_on(), "quiet")
        self.assertEqual(self.told(journey), before)
        self.assertIsNone(journey.back(1))
        self.assertEqual(journey.world.due(), ["ann"])

    def test_going_with_several_names(self):
        journey, other = Journey(start(self.TEXT)), Journey(start(self.TEXT))
        names = ["bob", "ann", "cat", "bob"]
        self.assertIsNone(journey.go_all(names))
        self.assertEqual(names, ["bob", "ann", "cat", "bob"])
        for life in names:
            other.go(life)
        self.assertEqual(self.told(journey), self.told(other))
        journey.go_all(("ann", "cat"))
        self.assertEqual(journey.names(), names + ["ann", "cat"])

    def test_going_with_no_names(self):
        for text in (self.TEXT, "class k() { } start ann = k() at 3;", ""):
            journey = Journey(start(text))
            before = self.told(journey)
            self.assertIsNone(journey.go_all([]))
            self.assertEqual(self.told(journey), before)

    def test_all_names_or_none(self):
        journey = Journey(start(self.TEXT))
        journey.go("bob")
        before = self.told(journey)
        for names, place in ((["bob"], 0), (["zoe", "ann"], 0), (["ann", "ann"], 1), (["ann", "cat", "dan"], 2),
                             (["ann", "cat", "cat"], 2),
                             (["ann", "cat", "bob", "ann", "cat", "bob", "bob"], 6), (["ann", ""], 1)):
            self.assertEqual(limited(journey, names), ("NoCourse", place))
            self.assertEqual(self.told(journey), before)

    def test_going_on(self):
        journey = Journey(start(self.TEXT))
        self.assertEqual(journey.go_on(until=0), "until")
        self.assertEqual((journey.names(), journey.world.time), (self.STEPS[:2], 1))
        self.assertEqual(journey.go_on(until=0), "until")
        self.assertEqual(journey.go_on(most=0), "most")
        self.assertEqual(journey.names(), self.STEPS[:2])
        self.assertEqual(journey.go_on(most=2), "most")
        self.assertEqual((journey.names(), journey.world.time), (self.STEPS[:4], 2))
        self.assertEqual(journey.go_on(until=3, most=1), "most")
        self.assertEqual(journey.go_on(until=3, most=1), "until")
        self.assertEqual(journey.go_on(), "quiet")
        self.assertEqual(journey.names(), self.STEPS)
        found = run(start(self.TEXT))
        self.assertEqual([told_happening(row) for row in journey.happenings], [told_happening(row) for row in found])
        self.assertEqual(whole(journey.world), whole(found.end))

    def test_200_happenings_are_the_default(self):
        journey = Journey(start("class k() { life { while 1 { hold 1; } } } start ann = k();"))
        self.assertEqual((journey.go_on(), len(journey.happenings)), ("most", 200))
        self.assertEqual((journey.go_on(until=250), len(journey.happenings)), ("until", 251))

    def test_two_journeys_from_one_world(self):
        world = start(self.TEXT)
        one, other = Journey(world), Journey(world)
        one.go_on()
        self.assertEqual((other.happenings, other.text(), write_world(world)),
                         ([], write_world(world), write_world(start(self.TEXT))))

    def test_new_lists(self):
        journey = Journey(start(self.TEXT))
        journey.go_on()
        journey.names().clear()
        self.assertEqual(journey.names(), self.STEPS)


class BackTest(JourneyCase):
    def test_back_by_some(self):
        journey = Journey(start(self.TEXT))
        journey.go_on(most=4)
        before = self.told(journey)
        journey.go_on()
        self.assertIsNone(journey.back(3))
        self.assertEqual(self.told(journey), before)
        journey.go_on()
        self.assertEqual(journey.names(), self.STEPS)

    def test_back_by_none_and_by_all(self):
        journey = Journey(start(self.TEXT))
        first = self.told(journey)
        journey.go_on()
        before = self.told(journey)
        self.assertIsNone(journey.back(0))
        self.assertEqual(self.told(journey), before)
        self.assertIsNone(journey.back(7))
        self.assertEqual(self.told(journey), first)
        self.assertIsNone(journey.back(0))
        self.assertEqual(self.told(journey), first)

    def test_back_by_too_many_or_less_than_none(self):
        journey = Journey(start(self.TEXT))
        for many in (0, 3):
            journey.go_on(most=many)
            before = self.told(journey)
            for count in (many + 1, many + 2, 10 ** 300, -1, -2, -10 ** 300):
                self.assertEqual(refusal(journey.back, count), ("NoPlace", count))
                self.assertEqual(self.told(journey), before)

    def test_the_world_is_the_one_before_the_happening(self):
        # Behind ann the world is advanced to time 3; taken back it is at time 1 again.
        journey = Journey(start("class k() { life { hold 2; } } start ann = k() at 1;"))
        text = journey.text()
        journey.go("ann")
        self.assertEqual(journey.world.time, 3)
        journey.back(1)
        self.assertEqual((journey.text(), journey.world.time), (text, 1))

    def test_random_journeys(self):
        for seed in range(40):
            chance = random.Random(seed)
            world = start(calm_program_text(chance))
            if chance.random() < 0.5 and world.due():
                world, _ = happen(world, chance.choice(world.due()))
            journey = Journey(world)
            shown = [self.told(journey)]
            for _ in range(25):
                if chance.random() < 0.7 and journey.world.due():
                    journey.go(chance.choice(journey.world.due()))
                    shown.append(self.told(journey))
                elif chance.random() < 0.3:
                    kept = len(shown)
                    for life in journey.world.due()[:1]:
                        journey.go_all([life])
                        shown.append(self.told(journey))
                    self.assertLessEqual(len(shown), kept + 1)
                else:
                    count = chance.randint(0, min(3, len(shown) - 1))
                    journey.back(count)
                    shown = shown[:len(shown) - count]
                self.assertEqual(self.told(journey), shown[-1])
            journey.back(len(journey.happenings))
            self.assertEqual(self.told(journey), shown[0])


if __name__ == "__main__":
    unittest.main()
