"""Points 71, 72 and 73."""

import math
import random
import unittest

from tests.crowds import crowd, orders, start, whole_courses
from tests.test_crossings import bounded
from tests.texts import refusal
from wokenlives.counts import count_courses, course_at, leaves, place_of, rounds
from wokenlives.crossings import crossings
from wokenlives.exchanges import distance, exchange_way
from wokenlives.forests import lone_forest

# ann wakes bob and cat, cat wakes dan; eve stands alone.
TREE = """class a() { life { wake cat; wake bob; } } class c() { life { wake dan; } } class e() { life { } }
start ann = a(); start bob = e() asleep; start cat = c() asleep; start dan = e() asleep; start eve = e();"""
CROSSED = "cell c = 0; class k() { life { set c = c + 1; } } start ann = e(); start cat = k(); start bob = k(); class e() { }"


def forest_of(text, **bound):
    return lone_forest(start(text), **bound)


def lone_lives(many):
    """Lives that do nothing, by names in ascending order."""
    names = [f"life{number}" for number in range(100, 100 + many)]
    return names, "class k() { }" + "".join(f"start {name} = k();" for name in names)


def chain(many):
    """A life that wakes another one, which wakes the first one, and so on: a forest of many lines, one of each length."""
    return f"""cell c = {many}; class a() {{ life {{ while 1 {{ set c = c - 1; if c > 0 {{ wake bob; }} sleep; }} }} }}
    class b() {{ life {{ while 1 {{ set c = c - 1; if c > 0 {{ wake ann; }} sleep; }} }} }}
    start ann = a(); start bob = b() asleep;"""


def free_forests(seeds, most):
    """Random forests without crossings of at most so many lines."""
    for seed in range(seeds):
        world = crowd(random.Random(seed), 5)
        if bounded(lone_forest, world, most) is None:
            forest = lone_forest(world)
            if crossings(forest) == []:
                yield forest


class CountTest(unittest.TestCase):
    def test_the_empty_forest(self):
        for text in ("", "class k() { } start ann = k() at 2;"):
            forest = forest_of(text)
            self.assertEqual(count_courses(forest), 1)
            self.assertEqual(course_at(forest, 0), [])
            self.assertEqual(place_of(forest, []), 0)
            self.assertEqual((leaves(forest), rounds(forest)), ([], []))
            for place in (-1, 1, 10 ** 300):
                self.assertEqual(refusal(course_at, forest, place), ("NoPlace", place))
            self.assertEqual(refusal(place_of, forest, ["ann"]), ("NoCourse", 0))

    def test_one_line(self):
        forest = forest_of("class k() { } start ann = k();")
        self.assertEqual(count_courses(forest), 1)
        self.assertEqual(course_at(forest, 0), ["ann"])

    def test_the_quotient(self):
        # 5 lines with the weights 4, 1, 2, 1 and 1.
        self.assertEqual(count_courses(forest_of(TREE)), 120 // 8)

    def test_large_numbers(self):
        names, text = lone_lives(20)
        forest = forest_of(text)
        self.assertEqual(count_courses(forest), math.factorial(20))
        self.assertEqual(count_courses(forest_of(chain(120))), 1)

    def test_the_largest_forest(self):
        # 20 lives make 5 others each; 20 and 100 lines.
        text = "class k() { var v = 0; var x = 0; life { while v < 5 { set v = v + 1; make x = e(); wake x; } } } class e() { }"
        text += "".join(f"start life{number} = k();" for number in range(10, 30))
        forest = forest_of(text)
        self.assertEqual(len(forest), 120)
        total = math.factorial(120) // 6 ** 20
        self.assertEqual(count_courses(forest), total)
        for place in (0, 1, total // 3, total - 1):
            self.assertEqual(place_of(forest, course_at(forest, place)), place)
        self.assertEqual(refusal(course_at, forest, total), ("NoPlace", total))

    def test_random_forests(self):
        counts = {}
        for forest in free_forests(150, 6):
            many = len(orders(list(forest)))
            self.assertEqual(count_courses(forest), many)
            counts[many] = True
        self.assertGreater(len(counts), 5)


class PlacesTest(unittest.TestCase):
    def test_all_places(self):
        forest = forest_of(TREE)
        found = [course_at(forest, place) for place in range(15)]
        self.assertEqual(found[0], ["ann", "bob", "cat", "dan", "eve"])
        self.assertEqual(found[1], ["ann", "bob", "cat", "eve", "dan"])
        self.assertEqual(found[14], ["eve", "ann", "cat", "dan", "bob"])
        self.assertEqual(found, sorted(whole_courses(start(TREE))))
        self.assertEqual([place_of(forest, names) for names in found], list(range(15)))
        self.assertEqual(place_of(forest, tuple(found[7])), 7)

    def test_places_that_are_none(self):
        forest = forest_of(TREE)
        for place in (-1, -15, 15, 16, 10 ** 399, -10 ** 399):
            self.assertEqual(refusal(course_at, forest, place), ("NoPlace", place))

    def test_large_places(self):
        names, text = lone_lives(20)
        forest = forest_of(text)
        self.assertEqual(course_at(forest, 0), names)
        self.assertEqual(course_at(forest, math.factorial(20) - 1), names[::-1])
        self.assertEqual(course_at(forest, math.factorial(19)), [names[1], names[0]] + names[2:])
        self.assertEqual(place_of(forest, names[::-1]), math.factorial(20) - 1)
        for place in (math.factorial(20), 10 ** 200):
            self.assertEqual(refusal(course_at, forest, place), ("NoPlace", place))

    def test_lists_that_are_no_whole_courses(self):
        forest = forest_of(TREE)
        for names, place in (
            ([], 0), (["bob"], 0), (["ann", "ann"], 1), (["ann", "dan"], 1), (["eve", "ann", "zoe"], 2), (["ann"], 1),
            (["ann", "bob", "cat", "dan"], 4), (["ann", "bob", "cat", "dan", "eve", "eve"], 5), (["", "ann"], 0),
            (["ann", "bob", "cat", "dan", "eve", "ann"], 5), (["zoe"] * 9, 0), (["ann", "bob", "bob"], 2),
        ):
            self.assertEqual(refusal(place_of, forest, names), ("NoCourse", place), names)
        self.assertEqual(place_of(forest, ["ann", "bob", "cat", "dan", "eve"]), 0)

    def test_a_name_that_comes_twice(self):
        text = """class a() { life { wake bob; sleep; wake cat; } } class b() { life { wake ann; } } class e() { life { } }
        start ann = a(); start bob = b() asleep; start cat = e() asleep; start dan = e();"""
        forest = forest_of(text)
        self.assertEqual(count_courses(forest), 5)
        self.assertEqual(course_at(forest, 2), ["ann", "bob", "dan", "ann", "cat"])
        self.assertEqual(place_of(forest, ["dan", "ann", "bob", "ann", "cat"]), 4)

    def test_new_lists(self):
        forest = forest_of(TREE)
        course_at(forest, 3).clear()
        leaves(forest).clear()
        rounds(forest)[0].clear()
        names = ["ann", "bob", "cat", "dan", "eve"]
        place_of(forest, names)
        self.assertEqual(names, ["ann", "bob", "cat", "dan", "eve"])
        self.assertEqual((len(course_at(forest, 3)), len(leaves(forest)), len(rounds(forest)[0])), (5, 3, 2))

    def test_random_forests(self):
        for forest in free_forests(150, 6):
            courses = sorted(whole_courses(forest.world))
            self.assertEqual([course_at(forest, place) for place in range(len(courses))], courses)
            self.assertEqual([place_of(forest, names) for names in courses], list(range(len(courses))))
            self.assertEqual(refusal(course_at, forest, len(courses)), ("NoPlace", len(courses)))


class LeavesAndRoundsTest(unittest.TestCase):
    def test_one_line(self):
        forest = forest_of("class k() { } start ann = k();")
        self.assertEqual((leaves(forest), rounds(forest)), ([("ann",)], [[("ann",)]]))

    def test_several_generations(self):
        forest = forest_of(TREE)
        self.assertEqual(leaves(forest), [("eve",), ("ann", "bob"), ("ann", "cat", "dan")])
        self.assertEqual(rounds(forest), [[("ann",), ("eve",)], [("ann", "bob"), ("ann", "cat")],
                                          [("ann", "cat", "dan")]])
        forest = forest_of(chain(9))
        self.assertEqual(leaves(forest), [("ann", "bob") * 4 + ("ann",)])
        self.assertEqual([len(lines) for lines in rounds(forest)], [1] * 9)

    def test_random_forests(self):
        for forest in free_forests(150, 9):
            lines = list(forest)
            longer = [line[:length] for line in lines for length in range(1, len(line))]
            self.assertEqual(leaves(forest), [line for line in lines if line not in longer])
            by_length = {}
            for line in lines:
                by_length.setdefault(len(line), []).append(line)
            self.assertEqual(rounds(forest), [by_length[length] for length in sorted(by_length)])


class CrossedTest(unittest.TestCase):
    def test_crossings_come_before_all_other_errors(self):
        forest = forest_of(CROSSED)
        for call, more in (
            (count_courses, ()), (course_at, (0,)), (course_at, (-1,)), (course_at, (10 ** 9,)), (leaves, ()),
            (rounds, ()),
            (place_of, (["ann", "bob", "cat"],)), (place_of, (["zoe"],)), (place_of, ([],)),
            (distance, (["ann", "bob", "cat"], ["ann", "bob", "cat"])), (distance, ([], ["zoe"])),
            (exchange_way, (["ann", "bob", "cat"], ["ann", "bob", "cat"])), (exchange_way, (["zoe"], [])),
        ):
            self.assertEqual(refusal(call, forest, *more), ("Crossed", ("bob",), ("cat",)))

    def test_the_first_crossing_in_the_order_of_crossings(self):
        # The nearest crossing is (bob,) with (dan,), the first one is (ann,) with (cat, eve).
        text = """cell c = 0; cell d = 0; class k() { life { set c = c + 1; } } class w() { life { wake eve; } }
        class b() { life { set d = d + 1; } } start ann = k(); start bob = b(); start cat = w(); start dan = b();
        start eve = k() asleep;"""
        forest = forest_of(text)
        self.assertEqual([row[:2] for row in crossings(forest)], [(("ann",), ("cat", "eve")), (("bob",), ("dan",))])
        for call in (count_courses, leaves, rounds):
            self.assertEqual(refusal(call, forest), ("Crossed", ("ann",), ("cat", "eve")))


if __name__ == "__main__":
    unittest.main()
