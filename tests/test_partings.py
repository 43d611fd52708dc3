"""Points 66, 67, 69 and 70."""

import random
import unittest

from tests.chance import calm_program_text
from tests.crowds import crowd, meeting_behind, orders, shortest_parting, start, whole_courses
from tests.plain import whole
from tests.texts import refusal
from tests.test_crossings import bounded
from wokenlives.crossings import crossings, nearest_crossing
from wokenlives.forests import lone_forest
from wokenlives.happenings import happen
from wokenlives.partings import course_decides, nearest_parting, run_parting
from wokenlives.runs import books, follow, run
from wokenlives.worlds import advance

STEP = "class k() { life { set c = c + 1; } } "
WAKE = "class w() { life { wake cat; } } class x() { life { wake dan; } } "


def limited(world, **limits):
    """What run_parting raises with these limits, or None."""
    try:
        run_parting(world, **limits)
    except ValueError as error:
        return (error.__class__.__name__,) + tuple(vars(error).values())
    return None


def books_of_courses(world, names, longest, advancing):
    """The books, as strings, of all courses with this beginning of at most so many names."""
    found = set()
    worlds = [follow(world, names, advancing=advancing)]
    while worlds:
        found |= {repr(books(happenings)) for _, happenings in worlds}
        longer = []
        for behind, happenings in worlds:
            if len(happenings) < longest:
                if advancing and behind.coming() is not None:
                    behind = advance(behind)
                for life in behind.due():
                    after, happening = happen(behind, life)
                    longer.append((after, happenings + [happening]))
        worlds = longer
    return found


class PartingCase(unittest.TestCase):
    def check_parting(self, world, parting, advancing=False):
        """Check by the definition that a parting is one, with courses of some more names."""
        course, first, second, thing = parting
        self.assertIsInstance(course, tuple)
        behind, _ = follow(world, course, advancing=advancing)
        if advancing:
            behind = advance(behind)
        self.assertNotEqual(first, second)
        self.assertIn(first, behind.due())
        self.assertIn(second, behind.due())
        self.assertEqual(min(meeting_behind(behind, first, second)), thing)
        longest = len(course) + 4
        one = books_of_courses(world, course + (first,), longest, advancing)
        other = books_of_courses(world, course + (second,), longest, advancing)
        self.assertFalse(one & other)


class NearestPartingTest(PartingCase):
    def parting_of(self, world, **bound):
        before = whole(world)
        found = nearest_parting(world, **bound)
        self.assertEqual(whole(world), before)
        if found is not None:
            self.check_parting(world, found)
        return found

    def test_an_empty_course(self):
        self.assertEqual(self.parting_of(start("cell c = 0; " + STEP + "start ann = k(); start bob = k();")),
                         ((), "ann", "bob", "c"))

    def test_none(self):
        for text in ("", "class k() { } start ann = k() asleep;",
                     "class k() { } start ann = k() at 3; start bob = k() at 3;",
                     "cell c = 1; class k() { life { set c = c; } } start ann = k(); start bob = k();"):
            self.assertIsNone(self.parting_of(start(text)))
            self.assertIsNone(nearest_parting(start(text), most=2))

    def test_the_course_takes_the_least_last_names(self):
        text = "cell c = 0; " + WAKE + STEP + "start bob = w(); start ann = x(); start cat = k() asleep; start dan = k() asleep;"
        world = start(text)
        self.assertEqual(nearest_crossing(world)[:2], (("ann", "dan"), ("bob", "cat")))
        self.assertEqual(self.parting_of(world), (("ann", "bob"), "dan", "cat", "c"))

    def test_a_beginning_comes_before_its_line(self):
        # The lines are (zoe, ann, eve) and (bob, fay).
        text = """cell c = 0; class z() { life { wake ann; } } class a() { life { wake eve; } } class b() { life { wake fay; } }
        """ + STEP + """start zoe = z(); start ann = a() asleep; start bob = b(); start eve = k() asleep; start fay = k() asleep;"""
        self.assertEqual(self.parting_of(start(text)), (("bob", "zoe", "ann"), "fay", "eve", "c"))
        text = text.replace("zoe", "aaa")
        self.assertEqual(self.parting_of(start(text)), (("aaa", "ann", "bob"), "fay", "eve", "c"))

    def test_shared_beginnings_stand_once(self):
        text = """cell c = 0; class a() { life { wake bob; } } class b() { life { wake dan; wake cat; } }
        class d() { life { wake eve; } } """ + STEP + """
        start ann = a(); start bob = b() asleep; start cat = k() asleep; start dan = d() asleep; start eve = k() asleep;"""
        self.assertEqual(self.parting_of(start(text)), (("ann", "bob", "dan"), "cat", "eve", "c"))

    def test_one_life_in_both_lines(self):
        text = """cell c = 0; class a() { life { wake bob; wake cat; sleep; set c = c + 1; } }
        class b() { life { wake ann; } } class d() { life { set c = c + 1; } }
        start ann = a(); start bob = b() asleep; start cat = d() asleep;"""
        self.assertEqual(self.parting_of(start(text)), (("ann", "bob"), "cat", "ann", "c"))

    def test_the_bound(self):
        text = "cell c = 0; " + WAKE + STEP + "start bob = w(); start ann = x(); start cat = k() asleep; start dan = k() asleep;"
        world = start(text)
        self.assertIsNotNone(self.parting_of(world, most=4))
        for most in range(4):
            self.assertEqual(bounded(nearest_parting, world, most), ("TooLong", most))
        endless = "class a() { life { while 1 { wake bob; sleep; } } } class b() { life { while 1 { wake ann; sleep; } } }"
        self.assertEqual(refusal(nearest_parting, start(endless + "start ann = a(); start bob = b() asleep;")),
                         ("TooLong", 120))

    def test_random_worlds(self):
        lengths = {}
        for seed in range(250):
            world = crowd(random.Random(seed), 5)
            if bounded(lone_forest, world, 9) is None:
                found = self.parting_of(world, most=9)
                length = None if found is None else len(found[0])
                lengths[length] = lengths.get(length, 0) + 1
                self.assertEqual(shortest_parting(world, 9 if length is None else length), length)
                self.assertEqual(length is None, crossings(lone_forest(world)) == [])
        for length in (None, 0, 1, 2):
            self.assertIn(length, lengths)

    def test_without_crossings_all_whole_courses_lead_to_one_world(self):
        many = 0
        for seed in range(150):
            world = crowd(random.Random(seed), 5)
            if bounded(lone_forest, world, 6) is None and nearest_parting(world) is None:
                courses = whole_courses(world)
                ends = {repr((whole(behind), books(found))) for behind,
                        found in [follow(world, names) for names in courses]}
                self.assertEqual(len(ends), 1)
                lines = list(lone_forest(world))
                self.assertEqual(sorted(courses), sorted([line[-1] for line in order] for order in orders(lines)))
                many += len(courses) > 1
        self.assertGreater(many, 30)


class RunPartingTest(PartingCase):
    LATE = "cell c = 0; class k(n) { life { tell hi(); hold n; set c = c + 1; hold 1; set c = c + 1; } } "

    def parting_of(self, world, **limits):
        before = whole(world)
        found = run_parting(world, **limits)
        self.assertEqual(whole(world), before)
        if found is not None:
            self.check_parting(world, found, advancing=True)
        return found

    def test_at_the_first_moment(self):
        text = "cell c = 0; " + STEP + "start ann = k(); start bob = k();"
        self.assertEqual(self.parting_of(start(text)), ((), "ann", "bob", "c"))
        text = "cell c = 0; " + STEP + "start ann = k() at 5; start bob = k() at 5;"
        self.assertEqual(self.parting_of(start(text)), ((), "ann", "bob", "c"))
        self.assertIsNone(nearest_parting(start(text)))

    def test_at_a_later_moment(self):
        world = start(self.LATE + "start ann = k(2); start bob = k(3); start cat = k(9);")
        # At time 3 ann is due for the second time, and bob with it.
        self.assertEqual(self.parting_of(world), (("ann", "bob", "cat", "ann"), "ann", "bob", "c"))

    def test_a_course_within_the_later_moment(self):
        text = """cell c = 0; class w() { life { hold 2; wake cat; } } class x() { life { hold 2; wake dan; } }
        """ + STEP + "start bob = w(); start ann = x(); start cat = k() asleep; start dan = k() asleep;"
        self.assertEqual(self.parting_of(start(text)), (("ann", "bob", "ann", "bob"), "dan", "cat", "c"))

    def test_at_a_later_stage(self):
        text = "cell c = 0; class k() { life { hold 0; set c = c + 1; } } start ann = k(); start bob = k();"
        self.assertEqual(self.parting_of(start(text)), (("ann", "bob"), "ann", "bob", "c"))

    def test_in_the_middle_of_a_moment(self):
        # The first happening of the run is not the first one at its moment.
        text = "cell c = 0; class w() { life { } } " + STEP + "start ann = w(); start bob = k(); start cat = k();"
        world, _ = happen(start(text), "ann")
        self.assertEqual(self.parting_of(world), ((), "bob", "cat", "c"))
        world, _ = happen(world, "bob")
        self.assertIsNone(self.parting_of(world))

    def test_the_reasons(self):
        world = start(self.LATE + "start ann = k(2); start bob = k(3);")
        happenings = run(world).happenings
        self.assertEqual(len(happenings), 6)
        parting = (("ann", "bob", "ann"), "ann", "bob", "c")
        self.assertEqual(self.parting_of(world), parting)
        # until: time 2 is before the parting, time 3 is its moment.
        self.assertIsNone(self.parting_of(world, until=2))
        self.assertIsNone(self.parting_of(world, until=0))
        self.assertEqual(self.parting_of(world, until=3), parting)
        # most: the reasons are asked before the parting is found.
        self.assertEqual(self.parting_of(world, most=4), parting)
        for most in range(4):
            self.assertEqual(limited(world, most=most), ("TooLong", most))
        self.assertEqual(limited(world, until=2, most=3), None)
        self.assertEqual(limited(world, until=3, most=3), ("TooLong", 3))
        calm = start(self.LATE + "start ann = k(1);")
        self.assertIsNone(self.parting_of(calm))
        self.assertIsNone(self.parting_of(calm, most=3))
        self.assertEqual(limited(calm, most=2), ("TooLong", 2))
        self.assertIsNone(self.parting_of(start("")))
        self.assertIsNone(self.parting_of(start(""), most=0))
        self.assertIsNone(self.parting_of(start("class k() { } start ann = k() at 3;"), until=2, most=0))

    def test_200_happenings_are_the_default(self):
        endless = start("class k() { life { while 1 { hold 1; } } } start ann = k();")
        self.assertEqual(limited(endless), ("TooLong", 200))
        self.assertIsNone(self.parting_of(endless, until=199))
        self.assertEqual(limited(endless, until=200), ("TooLong", 200))
        self.assertIsNone(self.parting_of(endless, until=200, most=201))

    def test_a_forest_that_is_too_long(self):
        text = "class a() { life { hold 1; wake bob; } } class b() { } start ann = a(); start bob = b() asleep;"
        self.assertIsNone(self.parting_of(start(text), lines=2))
        self.assertEqual(limited(start(text), lines=1), ("TooLong", 1))
        self.assertEqual(limited(start(text), lines=0), ("TooLong", 0))
        self.assertIsNone(self.parting_of(start(text), until=0, lines=1))
        endless = "class a() { life { while 1 { wake bob; sleep; } } } class b() { life { while 1 { wake ann; sleep; } } }"
        self.assertEqual(limited(start(endless + "start ann = a(); start bob = b() asleep;")), ("TooLong", 120))

    def test_random_worlds(self):
        seen = {}
        for seed in range(200):
            chance = random.Random(seed)
            world = crowd(chance, 4) if seed % 2 else start(calm_program_text(chance))
            for _ in range(chance.choice((0, 0, 1))):
                if world.due():
                    world, _ = happen(world, chance.choice(world.due()))
            found = None
            if limited(world, most=10) is None:
                found = self.parting_of(world, most=10)
                self.check_length(world, found)
            seen[None if found is None else len(found[0])] = True
        self.assertGreater(len(seen), 3)

    def check_length(self, world, found):
        """No parting of advancing courses has a shorter course."""
        worlds = [world]
        for _ in range(9 if found is None else len(found[0])):
            worlds = [advance(behind) for behind in worlds if behind.coming() is not None]
            longer = []
            for behind in worlds:
                due = behind.due()
                for one in due:
                    for other in due:
                        self.assertFalse(one < other and meeting_behind(behind, one, other))
                longer += [happen(behind, life)[0] for life in due]
            worlds = longer[:60]


class CourseDecidesTest(unittest.TestCase):
    def decides(self, text, names):
        world = start(text)
        before = whole(world)
        found = course_decides(world, names)
        self.assertIsInstance(found, bool)
        self.assertEqual(whole(world), before)
        self.assertEqual(course_decides(world, tuple(names)), found)
        self.assertEqual(found, crossings(lone_forest(world)) == [])
        return found

    def test_touches_that_meet(self):
        text = "cell c = 0; " + STEP + "start ann = k(); start bob = k();"
        self.assertIs(self.decides(text, ["ann", "bob"]), False)
        self.assertIs(self.decides(text, ["bob", "ann"]), False)
        self.assertIs(self.decides(text.replace("c + 1", "c"), ["bob", "ann"]), True)

    def test_touches_of_one_line(self):
        text = """cell c = 0; class a() { life { set c = c + 1; wake bob; sleep; set c = c + 1; } }
        class b() { life { set c = c + 1; wake cat; } } class d() { life { set c = c + 1; wake ann; } }
        start ann = a(); start bob = b() asleep; start cat = d() asleep; start dan = e(); class e() { }"""
        for names in (["ann", "bob", "cat", "ann", "dan"], ["dan", "ann", "bob", "cat", "ann"],
                      ["ann", "bob", "dan", "cat", "ann"]):
            self.assertIs(self.decides(text, names), True)
        self.assertIs(self.decides(text.replace("class e() { }", "class e() { life { set c = c; } }"),
                                   ["ann", "bob", "cat", "ann", "dan"]), False)

    def test_touches_of_lines_with_one_beginning(self):
        text = "cell c = 0; class w() { life { wake bob; wake cat; } } " + STEP
        text += "start ann = w(); start bob = k() asleep; start cat = k() asleep;"
        self.assertIs(self.decides(text, ["ann", "cat", "bob"]), False)
        self.assertIs(self.decides(text.replace("c + 1", "7 mod c"), ["ann", "cat", "bob"]), True)

    def test_the_last_waker_counts(self):
        # bob is woken by ann, stopped by it and woken by cat.
        text = """class a() { life { wake bob; wake cat; } } class c() { life { stop bob; wake bob; } } class b() { life { wake dan; } }
        class d() { } start ann = a(); start bob = b() asleep; start cat = c() asleep; start dan = d() asleep;"""
        self.assertIs(self.decides(text, ["ann", "cat", "bob", "dan"]), False)
        self.assertIs(self.decides(text, ["ann", "bob", "dan", "cat"]), False)

    def test_a_stop_of_a_life_that_was_due(self):
        # In the first order bob does not run, so that no touches meet.
        text = "class a() { life { stop bob; } } class b() { } start ann = a(); start bob = b();"
        self.assertIs(self.decides(text, ["ann"]), False)
        self.assertIs(self.decides(text, ["bob", "ann"]), False)

    def test_a_stop_of_a_life_that_was_not_due(self):
        later = "class a() { life { stop bob; } } class b() { } start ann = a(); start bob = b() at 1;"
        self.assertIs(self.decides(later, ["ann"]), True)
        asleep = "class a() { life { wake bob; stop bob; } } class b() { } start ann = a(); start bob = b() asleep;"
        self.assertIs(self.decides(asleep, ["ann"]), True)
        made = "cell c = 0; class a() { life { make c = b(); wake c; stop c; } } class b() { } start ann = a();"
        self.assertIs(self.decides(made, ["ann"]), True)
        idle = "class a() { life { stop bob; } } class b() { } start ann = a(); start bob = b() asleep;"
        self.assertIs(self.decides(idle, ["ann"]), True)

    def test_a_stop_in_ones_own_line(self):
        # ann has made bob due, so the lines do not cross before cat, which stops bob.
        text = """class a() { life { wake bob; wake cat; } } class b() { } class d() { life { stop bob; } }
        start ann = a(); start bob = b() asleep; start cat = d() asleep;"""
        self.assertIs(self.decides(text, ["ann", "cat"]), False)
        self.assertIs(self.decides(text, ["ann", "bob", "cat"]), False)
        # A life that stops one that is due, and wakes it again.
        text = "class a() { life { stop bob; wake bob; } } class b() { } start ann = a(); start bob = b();"
        self.assertIs(self.decides(text, ["ann", "bob"]), False)

    def test_the_empty_course(self):
        self.assertIs(self.decides("", []), True)
        self.assertIs(self.decides("class k() { } start ann = k() at 1;", []), True)

    def test_lists_that_are_no_courses(self):
        world = start("cell c = 0; " + STEP + "start ann = k(); start bob = k(); start cat = k() asleep; start dan = k() at 1;")
        for names, place in (([], 0), (["ann"], 1), (["bob"], 1), (["ann", "ann"], 1), (["cat", "ann"], 0),
                             (["dan"], 0),
                             (["zoe", "ann", "bob"], 0), (["ann", "", "bob"], 1), (["ann", "bob", "cat"], 2),
                             (["ann", "c"], 1),
                             (["ann", "bob", "zoe"], 2), (["ann", "bob", "dan"], 2), (("bob", "ann:m"), 1)):
            self.assertEqual(refusal(course_decides, world, names), ("NoCourse", place), names)
        self.assertIs(course_decides(world, ["ann", "bob"]), False)

    def test_random_worlds(self):
        seen = {}
        for seed in range(250):
            world = crowd(random.Random(seed), 5)
            if bounded(lone_forest, world, 6) is None:
                free = crossings(lone_forest(world)) == []
                courses = whole_courses(world)
                for names in courses[:40]:
                    self.assertIs(course_decides(world, names), free)
                seen[free, len(courses) > 5] = True
        self.assertEqual(len(seen), 4)

    def test_a_long_course(self):
        text = """cell c = 0; class a() { life { while c < 90 { set c = c + 1; wake bob; sleep; } } }
        class b() { life { while c < 90 { set c = c + 1; wake ann; sleep; } } } start ann = a(); start bob = b() asleep;
        start cat = e(); class e() { life { tell hello(); } }"""
        names = ["ann", "bob"] * 45 + ["ann", "cat"]
        self.assertIs(self.decides(text, names), True)
        self.assertIs(self.decides(text.replace("tell hello();", "tell hello(c);"), names), False)


if __name__ == "__main__":
    unittest.main()
