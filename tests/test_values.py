import unittest

from wokenlives.values import combine, is_true, later_moment, value_text

MOST = 999999999


class ValuesTest(unittest.TestCase):
    def test_is_true(self):
        for value in (1, -1, MOST, "ann", "ann.1"):
            self.assertIs(is_true(value), True, value)
        for value in (0, None):
            self.assertIs(is_true(value), False, value)

    def test_value_text(self):
        for value, text in ((0, "0"), (12, "12"), (-7, "-7"), (None, "none"), ("ann.2", "ann.2"), (-MOST, "-999999999")):
            self.assertEqual(value_text(value), text)


class CombineTest(unittest.TestCase):
    def check(self, sign, left, right, value):
        self.assertEqual(combine(sign, left, right), (value, None), (sign, left, right))

    def fault(self, sign, left, right, fault):
        self.assertEqual(combine(sign, left, right), (None, fault), (sign, left, right))

    def test_the_example(self):
        found = [combine("/", -7, 2), combine("mod", -7, 2), combine("==", None, 0), combine("<", None, 0)]
        self.assertEqual(found, [(-4, None), (1, None), (0, None), (None, "kind")])

    def test_equal_takes_any_values(self):
        values = (0, 1, -1, None, "ann", "bob")
        for left in values:
            for right in values:
                same = left == right
                self.check("==", left, right, 1 if same else 0)
                self.check("!=", left, right, 0 if same else 1)

    def test_comparisons(self):
        for left, right in ((1, 2), (2, 2), (3, 2), (-1, 0), (0, -1)):
            self.check("<", left, right, 1 if left < right else 0)
            self.check("<=", left, right, 1 if left <= right else 0)
            self.check(">", left, right, 1 if left > right else 0)
            self.check(">=", left, right, 1 if left >= right else 0)

    def test_sums_and_products(self):
        self.check("+", 2, -5, -3)
        self.check("-", 2, 5, -3)
        self.check("*", -4, 5, -20)

    def test_quotients_and_rests(self):
        for left, right, quotient, rest in (
            (7, 2, 3, 1), (-7, 2, -4, 1), (7, -2, -4, -1), (-7, -2, 3, -1), (6, 3, 2, 0), (-6, 3, -2, 0), (6, -3, -2, 0),
            (0, 5, 0, 0), (0, -5, 0, 0), (1, MOST, 0, 1), (-1, MOST, -1, MOST - 1), (1, -MOST, -1, -MOST + 1),
            (MOST, -1, -MOST, 0), (-MOST, -1, MOST, 0),
        ):
            self.check("/", left, right, quotient)
            self.check("mod", left, right, rest)

    def test_zero(self):
        for sign in ("/", "mod"):
            self.fault(sign, 5, 0, "zero")
            self.fault(sign, 0, 0, "zero")
            self.fault(sign, None, 0, "kind")

    def test_kind(self):
        for sign in ("<", "<=", ">", ">=", "+", "-", "*", "/", "mod"):
            for left, right in ((None, 1), (1, None), ("ann", 1), (1, "ann"), ("ann", "bob"), (None, None)):
                self.fault(sign, left, right, "kind")

    def test_the_bounds(self):
        self.check("+", MOST - 1, 1, MOST)
        self.fault("+", MOST, 1, "big")
        self.check("-", 1 - MOST, 1, -MOST)
        self.fault("-", -MOST, 1, "big")
        self.check("*", 333333333, 3, MOST)
        self.fault("*", 500000000, 2, "big")
        self.fault("*", -500000000, 2, "big")
        self.fault("*", MOST, MOST, "big")


class LaterTest(unittest.TestCase):
    def test_zero_goes_to_the_next_stage(self):
        self.assertEqual(later_moment(5, 2, 0), ((5, 3), None))
        self.assertEqual(later_moment(MOST, 10 ** 12, 0), ((MOST, 10 ** 12 + 1), None))

    def test_later(self):
        self.assertEqual(later_moment(5, 2, 1), ((6, 0), None))
        self.assertEqual(later_moment(0, 0, MOST), ((MOST, 0), None))

    def test_faults(self):
        self.assertEqual(later_moment(5, 0, -1), (None, "early"))
        self.assertEqual(later_moment(MOST, 0, -MOST), (None, "early"))
        self.assertEqual(later_moment(5, 0, None), (None, "kind"))
        self.assertEqual(later_moment(5, 0, "ann"), (None, "kind"))

    def test_the_greatest_time(self):
        self.assertEqual(later_moment(MOST - 3, 4, 3), ((MOST, 0), None))
        self.assertEqual(later_moment(MOST - 3, 4, 4), (None, "big"))
        self.assertEqual(later_moment(MOST, 0, 1), (None, "big"))
        self.assertEqual(later_moment(1, 0, MOST), (None, "big"))


if __name__ == "__main__":
    unittest.main()
