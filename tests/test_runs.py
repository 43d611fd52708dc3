"""Points 32, 33 and 58 to 60."""

import random
import unittest

from tests.chance import calm_program_text
from tests.plain import told_happening, whole
from tests.texts import refusal
from wokenlives.books import replay_rows
from wokenlives.happenings import happen
from wokenlives.programs import read_program
from wokenlives.runs import Run, books, follow, run, told_rows
from wokenlives.worlds import advance, start_world

TEXT = """
cell c = 0;
class k(n) { life { while n > 0 { set n = n - 1; set c = c + 1; tell step(n, c); hold 2; } } }
start bob = k(2); start ann = k(1); start cat = k(1) at 1; start dan = k(9) asleep;
"""


def start(text):
    return start_world(read_program(text))


def steps(happenings):
    return [(happening.life, happening.time, happening.stage) for happening in happenings]


class RunCase(unittest.TestCase):
    STEPS = [("ann", 0, 0), ("bob", 0, 0), ("cat", 1, 0), ("ann", 2, 0), ("bob", 2, 0), ("cat", 3, 0), ("bob", 4, 0)]

    def run_of(self, world, **limits):
        """A run, compared with that of the machine."""
        before = whole(world)
        found = run(world, **limits)
        other = run(world, by="machine", **limits)
        self.assertIsInstance(found, Run)
        self.assertEqual(whole(world), before)
        self.assertEqual(whole(found.start), before)
        self.assertEqual(whole(found.end), whole(other.end))
        self.assertEqual(found.reason, other.reason)
        self.assertEqual([told_happening(row) for row in found], [told_happening(row) for row in other])
        self.assertIsInstance(found.happenings, list)
        self.assertEqual([told_happening(row) for row in found], [told_happening(row) for row in found.happenings])
        return found


class RunTest(RunCase):
    def test_a_run_until_it_is_quiet(self):
        found = self.run_of(start(TEXT))
        self.assertEqual(steps(found), self.STEPS)
        self.assertEqual((found.reason, found.end.coming(), found.end.time), ("quiet", None, 4))
        self.assertEqual(found.end.state("c"), 4)
        self.assertEqual(found.end.state("dan"), ("asleep",))

    def test_until(self):
        for until, many in ((0, 2), (1, 3), (2, 5), (3, 6)):
            found = self.run_of(start(TEXT), until=until)
            self.assertEqual((steps(found), found.reason), (self.STEPS[:many], "until"))
            # The last world is the one behind the last happening, not advanced.
            self.assertEqual(found.end.time, until)
            self.assertEqual(found.end.coming(), self.STEPS[many][1:])
        for until in (4, 5, 999999999):
            self.assertEqual(self.run_of(start(TEXT), until=until).reason, "quiet")

    def test_until_before_the_first_moment(self):
        world = start("class k() { life { hold 0; hold 0; } } start ann = k() at 3;")
        found = self.run_of(world, until=2)
        self.assertEqual((steps(found), found.reason, found.end.time), ([], "until", 0))
        found = self.run_of(world, until=3)
        self.assertEqual((steps(found), found.reason), ([("ann", 3, 0), ("ann", 3, 1), ("ann", 3, 2)], "quiet"))

    def test_most(self):
        for most in range(7):
            found = self.run_of(start(TEXT), most=most)
            self.assertEqual((steps(found), found.reason), (self.STEPS[:most], "most"))
        for most in (7, 8, 999999999):
            self.assertEqual(self.run_of(start(TEXT), most=most).reason, "quiet")

    def test_the_order_of_the_reasons(self):
        quiet = start("class k() { } start ann = k() asleep;")
        self.assertEqual(self.run_of(quiet, until=0, most=0).reason, "quiet")
        self.assertEqual(self.run_of(start(TEXT), until=1, most=3).reason, "until")
        self.assertEqual(self.run_of(start(TEXT), until=2, most=3).reason, "most")
        self.assertEqual(self.run_of(start(TEXT), until=3, most=7).reason, "until")
        self.assertEqual(self.run_of(start(TEXT), until=4, most=7).reason, "quiet")
        self.assertEqual(self.run_of(start(TEXT), most=0).reason, "most")

    def test_200_happenings_are_the_default(self):
        endless = "class k() { life { while 1 { hold 1; } } } start ann = k();"
        found = self.run_of(start(endless))
        self.assertEqual((len(found.happenings), found.reason, found.end.time), (200, "most", 199))

    def test_a_run_goes_on_in_the_middle_of_a_moment(self):
        world = start(TEXT)
        behind, _ = happen(world, "bob")
        found = self.run_of(behind)
        self.assertEqual(steps(found)[:2], [("ann", 0, 0), ("cat", 1, 0)])

    def test_the_due_life_of_the_least_name(self):
        text = "class k() { life { wake abe; sleep; } } start ben = k(); start abe = k() asleep; start cat = k();"
        self.assertEqual(steps(self.run_of(start(text))), [("ben", 0, 0), ("abe", 0, 0), ("cat", 0, 0), ("abe", 0, 0)])


class FollowTest(RunCase):
    def follow_both(self, world, names, **more):
        before = whole(world)
        kept = list(names)
        behind, happenings = follow(world, names, **more)
        other, told = follow(world, tuple(names), by="machine", **more)
        self.assertIsInstance(happenings, list)
        self.assertEqual((whole(world), names), (before, kept))
        self.assertEqual(whole(behind), whole(other))
        self.assertEqual([told_happening(row) for row in happenings], [told_happening(row) for row in told])
        return behind, happenings

    def test_courses(self):
        world = start(TEXT)
        behind, happenings = self.follow_both(world, ["bob", "ann"])
        self.assertEqual(steps(happenings), [("bob", 0, 0), ("ann", 0, 0)])
        self.assertEqual((behind.time, behind.due(), behind.coming()), (0, [], (1, 0)))
        behind, happenings = self.follow_both(world, [])
        self.assertEqual((whole(behind), happenings), (whole(world), []))

    def test_lists_that_are_no_courses(self):
        world = start(TEXT)
        for names, place in ((["cat"], 0), (["dan"], 0), (["zoe"], 0), (["ann", "ann"], 1), (["bob", "ann", "cat"], 2),
                             (["c"], 0), (["ann", "", "bob"], 1)):
            self.assertEqual(refusal(follow, world, names), ("NoCourse", place), names)

    def test_advancing_courses(self):
        names = ["bob", "ann", "cat", "bob", "ann", "cat", "bob"]
        behind, happenings = self.follow_both(start(TEXT), names, advancing=True)
        self.assertEqual(steps(happenings), [("bob", 0, 0), ("ann", 0, 0), ("cat", 1, 0), ("bob", 2, 0), ("ann", 2, 0),
                                             ("cat", 3, 0), ("bob", 4, 0)])
        self.assertEqual(behind.coming(), None)
        behind, _ = self.follow_both(start(TEXT), names[:5], advancing=True)
        self.assertEqual((behind.time, behind.coming()), (2, (3, 0)))

    def test_lists_that_are_no_advancing_courses(self):
        world = start(TEXT)
        for names, place in ((["bob", "cat"], 1), (["ann", "bob", "cat", "cat"], 3), (["dan"], 0)):
            with self.assertRaises(ValueError) as caught:
                follow(world, names, advancing=True)
            self.assertEqual((caught.exception.__class__.__name__, caught.exception.place), ("NoCourse", place))

    def test_a_world_that_is_quiet_there(self):
        world = start("class k() { } start ann = k(); start bob = k() asleep;")
        self.assertEqual(refusal(follow, world, ["ann", "bob"]), ("NoCourse", 1))
        for names, place in ((["ann", "ann"], 1), (["ann", "bob"], 1)):
            with self.assertRaises(ValueError) as caught:
                follow(world, names, advancing=True)
            self.assertEqual((caught.exception.__class__.__name__, caught.exception.place), ("NoCourse", place))

    def test_a_course_begins_at_the_moment_of_its_world(self):
        world = start("class k() { } start ann = k() at 2;")
        self.assertEqual(refusal(follow, world, ["ann"]), ("NoCourse", 0))
        self.assertEqual(steps(follow(world, ["ann"], advancing=True)[1]), [("ann", 2, 0)])
        self.assertEqual(steps(follow(advance(world), ["ann"])[1]), [("ann", 2, 0)])

    def test_a_run_is_an_advancing_course(self):
        found = run(start(TEXT))
        behind, happenings = follow(start(TEXT), [happening.life for happening in found], advancing=True)
        self.assertEqual(whole(behind), whole(found.end))
        self.assertEqual([told_happening(row) for row in happenings], [told_happening(row) for row in found])


class BooksTest(RunCase):
    TEXT = """
    cell c = 0; cell e = 4; line q;
    class k(n) { life { set c = n; set c = c; if c == e { } set c = n; } }
    class o() { life { hold 0; if c { } sleep; } }
    start bob = k(1); start ann = k(2); start zoe = o(); start abe = o();
    """

    def test_rows(self):
        found = books(run(start(self.TEXT)))
        self.assertEqual(list(found), ["abe", "ann", "bob", "c", "e", "zoe"])
        self.assertEqual(found["c"], [
            (1, "change", "ann", 0, 0, "set", (2,), None),
            (1, "look", "ann", 0, 0, "look", (), 2), (1, "look", "ann", 0, 0, "set", (2,), None),
            (1, "look", "ann", 0, 0, "look", (), 2), (1, "look", "ann", 0, 0, "set", (2,), None),
            (2, "change", "bob", 0, 0, "set", (1,), None),
            (2, "look", "abe", 0, 1, "look", (), 1),
            (2, "look", "bob", 0, 0, "look", (), 1), (2, "look", "bob", 0, 0, "set", (1,), None),
            (2, "look", "bob", 0, 0, "look", (), 1), (2, "look", "bob", 0, 0, "set", (1,), None),
            (2, "look", "zoe", 0, 1, "look", (), 1)])
        self.assertEqual(found["e"], [(0, "look", "ann", 0, 0, "look", (), 4), (0, "look", "bob", 0, 0, "look", (), 4)])
        self.assertEqual(found["zoe"], [
            (1, "change", "zoe", 0, 0, "run", (0, 0), 1), (2, "change", "zoe", 0, 0, "hold", (0, 1), 1),
            (3, "change", "zoe", 0, 1, "run", (0, 1), 1), (4, "change", "zoe", 0, 1, "sleep", (), 1)])

    def test_no_happenings(self):
        self.assertEqual(books([]), {})
        self.assertEqual(told_rows([]), [])

    def test_new_lists_and_dicts(self):
        happenings = run(start(self.TEXT)).happenings
        found = books(happenings)
        found["c"].clear()
        found.clear()
        self.assertEqual(len(books(happenings)["c"]), 12)
        told_rows(happenings).append(1)
        self.assertEqual(told_rows(happenings), [])

    def first_state(self, world, thing):
        """The state of a thing at the start, also of one of a life that is made later."""
        if thing in world.things():
            return world.state(thing)
        if ":" in thing:
            return world.program.item(thing.split(":")[1])[2]
        return ("unborn",)

    def test_books_lead_from_the_start_to_the_end(self):
        for seed in range(40):
            world = start(calm_program_text(random.Random(seed)))
            found = self.run_of(world, most=40)
            for thing, rows in books(found).items():
                kind = found.end.kind(thing)
                state = self.first_state(world, thing)
                self.assertEqual(replay_rows(kind, state, rows), found.end.state(thing))
                self.assertEqual(rows[-1][0], found.end.number(thing))


class ToldRowsTest(RunCase):
    def test_rows_of_several_lives(self):
        self.assertEqual(told_rows(run(start(TEXT))), [
            ("ann", 0, 0, "step", (0, 1)), ("bob", 0, 0, "step", (1, 2)), ("bob", 2, 0, "step", (0, 4)),
            ("cat", 1, 0, "step", (0, 3))])

    def test_the_order_of_one_life(self):
        text = "class k() { life { tell b(now); tell a(); hold 0; tell a(me, none); } } start zoe = k(); start ann = k() at 3;"
        self.assertEqual(told_rows(run(start(text)).happenings), [
            ("ann", 3, 0, "b", (3,)), ("ann", 3, 0, "a", ()), ("ann", 3, 1, "a", ("ann", None)),
            ("zoe", 0, 0, "b", (0,)), ("zoe", 0, 0, "a", ()), ("zoe", 0, 1, "a", ("zoe", None))])


if __name__ == "__main__":
    unittest.main()
