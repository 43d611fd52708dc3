"""Point 74."""

import random
import unittest

from tests.crowds import start, whole_courses
from tests.test_counts import TREE, chain, forest_of, free_forests, lone_lives
from tests.texts import refusal
from wokenlives.counts import place_of
from wokenlives.exchanges import distance, exchange_way


def stands_for(forest, names):
    """The lines that the names of a whole course stand for, by the definition."""
    found = []
    for at, name in enumerate(names):
        lines = [line for line in forest if line[-1] == name]
        found.append(lines[names[:at].count(name)])
    return found


def pairs_otherwise(forest, first, second):
    """The pairs of lines that stand otherwise in two whole courses."""
    one, other = stands_for(forest, first), stands_for(forest, second)
    return [(line, then) for at, line in enumerate(one) for then in one[at + 1:] if other.index(line) > other.index(then)]


class ExchangesTest(unittest.TestCase):
    def check(self, forest, first, second):
        """The way, which is checked step by step."""
        pairs = pairs_otherwise(forest, first, second)
        self.assertEqual(distance(forest, first, second), len(pairs))
        way = exchange_way(forest, first, second)
        self.assertIsInstance(way, list)
        self.assertEqual(len(way), len(pairs))
        names = list(first)
        for index in way:
            otherwise = pairs_otherwise(forest, names, second)
            lines = stands_for(forest, names)
            least = [at for at in range(len(lines) - 1) if (lines[at], lines[at + 1]) in otherwise][0]
            self.assertEqual(index, least)
            names[index:index + 2] = names[index:index + 2][::-1]
            place_of(forest, names)
        self.assertEqual(names, list(second))
        return way

    def test_a_course_to_itself(self):
        forest = forest_of(TREE)
        self.assertEqual(self.check(forest, ["ann", "bob", "cat", "dan", "eve"], ["ann", "bob", "cat", "dan", "eve"]),
                         [])
        self.assertEqual(self.check(forest_of(""), [], []), [])
        self.assertEqual(self.check(forest_of(chain(9)), ["ann", "bob"] * 4 + ["ann"], ["ann", "bob"] * 4 + ["ann"]),
                         [])

    def test_a_course_to_its_reverse(self):
        names, text = lone_lives(4)
        forest = forest_of(text)
        self.assertEqual(self.check(forest, names, names[::-1]), [0, 1, 0, 2, 1, 0])
        self.assertEqual(distance(forest, names[::-1], names), 6)

    def test_ways_of_a_tree(self):
        forest = forest_of(TREE)
        self.assertEqual(self.check(forest, ["ann", "bob", "cat", "dan", "eve"], ["eve", "ann", "cat", "dan", "bob"]),
                         [1, 2, 3, 2, 1, 0])
        self.assertEqual(self.check(forest, ("eve", "ann", "cat", "dan", "bob"), ("ann", "eve", "cat", "bob", "dan")),
                         [0, 3])

    def test_a_name_that_comes_twice(self):
        text = """class a() { life { wake bob; sleep; wake cat; } } class b() { life { wake ann; } } class e() { life { } }
        start ann = a(); start bob = b() asleep; start cat = e() asleep; start dan = e();"""
        forest = forest_of(text)
        self.assertEqual(self.check(forest, ["dan", "ann", "bob", "ann", "cat"], ["ann", "bob", "ann", "cat", "dan"]),
                         [0, 1, 2, 3])

    def test_lists_that_are_no_whole_courses(self):
        forest = forest_of(TREE)
        good = ["ann", "bob", "cat", "dan", "eve"]
        for first, second, place in (
            (good[:3], good, 3), (good, good[:4], 4), (good[:2], good[:1], 2), (good, ["ann", "zoe"], 1),
            (["zoe"], ["ann"], 0),
            (good, [], 0), ([], good, 0), (good + ["eve"], ["bob"], 5), (good, good + ["ann"], 5),
            (["ann", "ann"], [], 1),
        ):
            for call in (distance, exchange_way):
                self.assertEqual(refusal(call, forest, first, second), ("NoCourse", place))

    def test_arguments_stay_as_they_are(self):
        forest = forest_of(TREE)
        first, second = ["ann", "bob", "cat", "dan", "eve"], ["eve", "ann", "cat", "dan", "bob"]
        exchange_way(forest, first, second)
        self.assertEqual((first[0], second[0]), ("ann", "eve"))

    def test_random_forests(self):
        chance = random.Random(5)
        for forest in free_forests(120, 6):
            courses = whole_courses(forest.world)
            for _ in range(3):
                self.check(forest, chance.choice(courses), chance.choice(courses))

    def test_the_longest_way_of_a_large_forest(self):
        names, text = lone_lives(20)
        self.assertEqual(len(exchange_way(forest_of(text), names, names[::-1])), 190)
        self.assertEqual(start(text).due(), names)


if __name__ == "__main__":
    unittest.main()
