"""Points 75, 76 and 77."""

import random
import unittest

from tests.chance import calm_program_text
from tests.crowds import crowd_text, meeting_behind, start
from tests.plain import whole
from wokenlives.happenings import happen
from wokenlives.partings import run_parting
from wokenlives.runs import follow, told_rows
from wokenlives.ways import last_fork, ways
from wokenlives.worlds import advance
from wokenlives.worldtext import write_world

RACE = "cell c = 0; class k() { life { set c = c + 1; tell got(c); } } start ann = k(); start bob = k();"


def refused(call, world, **limits):
    """What a call raises, or None."""
    try:
        call(world, **limits)
    except ValueError as error:
        return (error.__class__.__name__,) + tuple(vars(error).values())
    return None


def text_of(row):
    life, time, stage, word, values = row
    return " ".join([life, str(time), str(stage), word] + ["none" if value is None else str(value) for value in values])


class TooMany(Exception):
    pass


class Courses:
    """All advancing courses of a world up to a time: the worlds behind them, and what the whole ones tell."""

    def __init__(self, world, until, most=3000):
        self.until, self.left = until, most
        self.worlds, self.ways = {}, {}
        self.go(world, (), [])

    def go(self, world, course, happenings):
        self.left -= 1
        if self.left < 0:
            raise TooMany()
        self.worlds[write_world(world)] = True
        moment = world.coming()
        if moment is None or moment[0] > self.until:
            self.ways[course] = tuple(text_of(row) for row in told_rows(happenings))
            return
        ahead = advance(world)
        for life in ahead.due():
            behind, happening = happen(ahead, life)
            self.go(behind, course + (life,), happenings + [happening])

    def ways_of(self, course):
        """The ways of a course."""
        return sorted({way for names, way in self.ways.items() if names[:len(course)] == course})


class WaysCase(unittest.TestCase):
    def found(self, world, until, most=3000):
        """(ways, last fork), both compared with what the definitions say, or None if there are too many courses."""
        try:
            courses = Courses(world, until, most)
        except TooMany:
            return None
        before = whole(world)
        many = len(courses.worlds)
        found = ways(world, until=until, most=many)
        self.assertEqual(found, courses.ways_of(()))
        fork = last_fork(world, until=until, most=many)
        self.assertEqual(fork, self.fork_by_definition(world, courses))
        for call in (ways, last_fork):
            for most in (many - 1, 0):
                self.assertEqual(refused(call, world, until=until, most=most), ("TooLong", most))
        self.assertEqual(whole(world), before)
        if fork is not None:
            self.check_fork(world, fork)
        return found, fork

    def fork_by_definition(self, world, courses):
        if len(courses.ways_of(())) == 1:
            return None
        course = ()
        while True:
            due = advance(follow(world, course, advancing=True)[0]).due()
            forked = [life for life in due if len(courses.ways_of(course + (life,))) > 1]
            if not forked:
                break
            course += (forked[0],)
        told = {life: courses.ways_of(course + (life,)) for life in due}
        self.assertEqual({len(found) for found in told.values()}, {1})
        second = [life for life in due if told[life] != told[due[0]]][0]
        return (course, due[0], second, told[due[0]][0], told[second][0])

    def check_fork(self, world, fork):
        course, first, second, first_way, second_way = fork
        self.assertIsInstance(course, tuple)
        self.assertNotEqual(first_way, second_way)
        behind = advance(follow(world, course, advancing=True)[0])
        self.assertTrue(meeting_behind(behind, first, second))


class WaysTest(WaysCase):
    def test_one_way(self):
        world = start("class k() { life { tell hi(now, me, none, -3); hold 1; tell hi(); } } start bob = k(); start ann = k();")
        told = ("ann 0 0 hi 0 ann none -3", "ann 1 0 hi", "bob 0 0 hi 0 bob none -3", "bob 1 0 hi")
        self.assertEqual(self.found(world, 9), ([told], None))

    def test_several_ways(self):
        found, fork = self.found(start(RACE), 0)
        self.assertEqual(found, [("ann 0 0 got 1", "bob 0 0 got 2"), ("ann 0 0 got 2", "bob 0 0 got 1")])
        self.assertEqual(fork, ((), "ann", "bob", found[0], found[1]))

    def test_ways_are_ordered_as_tuples_of_strings(self):
        found, _ = self.found(start(RACE.replace("c = 0", "c = 8")), 0)
        # The string of 10 is less than that of 9.
        self.assertEqual(found, [("ann 0 0 got 10", "bob 0 0 got 9"), ("ann 0 0 got 9", "bob 0 0 got 10")])

    def test_the_order_of_the_rows(self):
        text = "class k() { life { tell b(); tell a(); hold 1; tell a(); } } start bob = k(); start ann = k() at 4;"
        self.assertEqual(self.found(start(text), 9)[0], [
            ("ann 4 0 b", "ann 4 0 a", "ann 5 0 a", "bob 0 0 b", "bob 0 0 a", "bob 1 0 a")])

    def test_a_way_that_ends_at_once(self):
        for text, until in (("", 0), ("class k() { } start ann = k() asleep;", 99),
                            ("class k() { life { tell a(); } } start ann = k() at 3;", 2)):
            self.assertEqual(self.found(start(text), until), ([()], None))
            self.assertEqual(ways(start(text), until=until, most=1), [()])
            self.assertEqual(refused(ways, start(text), until=until, most=0), ("TooLong", 0))
            self.assertEqual(refused(last_fork, start(text), until=until, most=0), ("TooLong", 0))

    def test_until(self):
        text = """cell c = 0; class k(n) { life { hold n; set c = c + 1; tell got(c); hold 1; tell bye(); } }
        start ann = k(2); start bob = k(2);"""
        for until, many in ((0, 1), (1, 1), (2, 2), (3, 2), (9, 2)):
            found, fork = self.found(start(text), until)
            self.assertEqual(len(found), many)
            self.assertEqual(fork is None, many == 1)
            self.assertEqual(len(found[0]), 0 if until < 2 else 2 if until == 2 else 4)

    def test_a_world_in_the_middle_of_a_moment(self):
        world, _ = happen(start(RACE + "start cat = k();"), "bob")
        found, fork = self.found(world, 5)
        self.assertEqual(found, [("ann 0 0 got 2", "cat 0 0 got 3"), ("ann 0 0 got 3", "cat 0 0 got 2")])
        self.assertEqual(fork[:3], ((), "ann", "cat"))

    def test_the_worlds_that_count(self):
        # The start world, two worlds behind one happening each, and one behind both, where the books differ by nothing.
        text = "class k() { life { tell hi(); } } start ann = k(); start bob = k();"
        self.assertEqual(len(Courses(start(text), 0).worlds), 4)
        self.assertEqual(len(ways(start(text), until=0, most=4)), 1)
        self.assertEqual(refused(ways, start(text), until=0, most=3), ("TooLong", 3))
        # Worlds with other numbers are others, also if all states are the same.
        text = """cell c = 0; class k(n) { life { set c = n; set c = 0; } } class o(n) { life { set c = 0; if c == 0 { set c = n; } set c = 1; } }
        start ann = k(1); start bob = o(5); start cat = o(0);"""
        self.found(start(text), 0)

    def test_the_world_is_not_advanced(self):
        # Behind the empty course the world counts as it was passed.
        text = "class k() { life { hold 2; hold 2; } } start ann = k() at 1;"
        self.assertEqual(ways(start(text), until=9, most=4), [()])
        self.assertEqual(refused(ways, start(text), until=9, most=3), ("TooLong", 3))
        self.assertEqual(ways(advance(start(text)), until=9, most=4), [()])
        self.assertEqual(ways(start(text), until=2, most=2), [()])

    def test_300_worlds_are_the_default(self):
        text = "cell c = 0; class k() { life { while c < 298 { set c = c + 1; hold 1; } } } start ann = k();"
        self.assertEqual(ways(start(text), until=999, most=300), [()])
        self.assertEqual(ways(start(text), until=999), [()])
        self.assertIsNone(last_fork(start(text), until=999))
        text = text.replace("298", "299")
        for call in (ways, last_fork):
            self.assertEqual(refused(call, start(text), until=999), ("TooLong", 300))
            call(start(text), until=999, most=301)
        endless = "class k() { life { while 1 { hold 0; } } } start ann = k();"
        self.assertEqual(refused(ways, start(endless), until=0), ("TooLong", 300))

    def test_a_fork_behind_a_longer_course(self):
        text = """cell c = 0; class k() { life { tell go(); hold 1; set c = c + 1; tell got(c); } } start bob = k(); start ann = k();
        start cat = k() at 9;"""
        found, fork = self.found(start(text), 20)
        self.assertEqual(len(found), 2)
        self.assertEqual(fork[:3], (("ann", "bob"), "ann", "bob"))
        self.assertEqual(fork[3], (
            "ann 0 0 go", "ann 1 0 got 1", "bob 0 0 go", "bob 1 0 got 2", "cat 9 0 go", "cat 10 0 got 3"))

    def test_the_last_fork_follows_the_least_names(self):
        # Three lives race: behind ann the two others still can be told in two ways.
        found, fork = self.found(start(RACE + "start cat = k();"), 0)
        self.assertEqual(len(found), 6)
        self.assertEqual(fork[:3], (("ann",), "bob", "cat"))

    def test_a_second_life_that_is_not_the_second_least(self):
        # ann and bob only look; what they tell depends on cat alone.
        text = """cell c = 0; class k() { life { tell saw(c); } } class e() { life { set c = 1; } } class n() { life { } }
        start ann = n(); start bob = k(); start cat = n(); start dan = e();"""
        found, fork = self.found(start(text), 0)
        self.assertEqual(found, [("bob 0 0 saw 0",), ("bob 0 0 saw 1",)])
        self.assertEqual(fork, (("ann", "cat"), "bob", "dan", ("bob 0 0 saw 0",), ("bob 0 0 saw 1",)))

    def test_orders_that_differ_without_being_told(self):
        text = "cell c = 0; class k(n) { life { set c = n; } } start ann = k(1); start bob = k(2);"
        self.assertIsNotNone(run_parting(start(text)))
        self.assertEqual(self.found(start(text), 0), ([()], None))

    def test_new_lists(self):
        world = start(RACE)
        ways(world, until=0).clear()
        self.assertEqual(len(ways(world, until=0)), 2)

    def test_random_worlds(self):
        seen = {}
        for seed in range(250):
            chance = random.Random(seed)
            text = crowd_text(chance, chance.randint(2, 4), 0.9) if seed % 3 else calm_program_text(chance)
            world = start(text)
            if chance.random() < 0.3 and world.due():
                world, _ = happen(world, chance.choice(world.due()))
            until = chance.choice((0, 1, 2))
            both = self.found(world, until, 400)
            if both is not None:
                found, fork = both
                if refused(run_parting, world, until=until) is None and run_parting(world, until=until) is None:
                    self.assertIsNone(fork)
                seen[min(len(found), 3), None if fork is None else min(len(fork[0]), 2)] = True
        self.assertGreater(len(seen), 4)


class ManyWaysTest(unittest.TestCase):
    def races(self, many):
        """At each of so many moments two lives race, and nothing else stays of it."""
        return start(f"""cell c = 0; class k() {{ var n = 0; life {{ while n < {many} {{ set n = n + 1; set c = 1 - c; tell got(c);
        hold 1; }} }} }} start ann = k(); start bob = k();""")

    def test_some_thousands(self):
        found = ways(self.races(12), until=99)
        self.assertEqual(len(found), 2 ** 12)
        self.assertEqual(found, sorted(found))
        self.assertEqual({len(way) for way in found}, {24})

    def test_far_more_ways_than_worlds(self):
        world = self.races(70)
        course, first, second, first_way, second_way = last_fork(world, until=99)
        self.assertEqual((course, first, second), (("ann", "bob") * 69, "ann", "bob"))
        self.assertEqual(len(first_way), 140)
        self.assertEqual([(row, other) for row, other in zip(first_way, second_way) if row != other],
                         [("ann 69 0 got 1", "ann 69 0 got 0"), ("bob 69 0 got 0", "bob 69 0 got 1")])
        self.assertEqual(refused(last_fork, world, until=99, most=200), ("TooLong", 200))

    def test_a_long_way_behind_many_ways(self):
        text = """cell c = 0; class k() { var n = 0; life { while n < 10 { set n = n + 1; set c = 1 - c; tell got(c); hold 1; } } }
        class e() { var n = 0; life { while n < 150 { set n = n + 1; tell step(n); hold 1; } } }
        start ann = k(); start bob = k(); start cat = e() at 20;"""
        found = ways(start(text), until=999)
        self.assertEqual(len(found), 2 ** 10)
        self.assertEqual({way[20:] for way in found}, {tuple(f"cat {n + 20} 0 step {n + 1}" for n in range(150))})


if __name__ == "__main__":
    unittest.main()
