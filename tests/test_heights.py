"""Point 52."""

import unittest

from tests.texts import refusal
from wokenlives.heights import row_heights

ONE = ("value", 1)
END = ("end",)


class HeightsTest(unittest.TestCase):
    def test_the_example(self):
        self.assertEqual(row_heights((("count",), ONE, ("unless", 4), ("jump", 0), END)), (0, 0, 1, 0, 0))

    def test_the_empty_tuple(self):
        self.assertEqual(row_heights(()), ())

    def test_each_row(self):
        for row, popped, pushed in (
            (("count",), 0, 0), (ONE, 0, 1), (("me",), 0, 1), (("now",), 0, 1), (("name", "ann"), 0, 1),
            (("argument", 0), 0, 1), (("own", 3), 0, 1), (("look", "c"), 0, 1), (("mark", "m"), 1, 1),
            (("ask", "length", "q"), 0, 1), (("stand",), 1, 1), (("neg",), 1, 1), (("not",), 1, 1), (("truth",), 1, 1),
            (("op", "+"), 2, 1), (("setargument", 0), 1, 0), (("setown", 1), 1, 0), (("set", "c"), 1, 0),
            (("setmark", "m"), 2, 0), (("tell", "hi", 0), 0, 0), (("tell", "hi", 3), 3, 0), (("call", "d", 0, 1), 0, 0),
            (("call", "d", 2, 7), 2, 0), (("hold", 5), 1, 0), (("sleep", 5), 0, 0), (("wake",), 1, 0),
            (("wakeafter",), 2, 0), (("stop",), 1, 0), (("seize", "s", 3), 1, 0), (("free", "s"), 1, 0),
            (("wait", "g", 2), 0, 0), (("open", "g"), 0, 0), (("shut", "g"), 0, 0), (("put", "q"), 1, 0),
            (("take", "q"), 0, 1), (("make", "k", 0), 0, 1), (("make", "k", 2), 2, 1),
        ):
            rows = (ONE,) * popped + (row,) + (("put", "q"),) * pushed + (END,)
            heights = tuple(range(popped + 1)) + (pushed, 0)[1 - pushed:]
            self.assertEqual(row_heights(rows), heights, row)
            if popped:
                rows = (ONE,) * (popped - 1) + (row, END)
                self.assertEqual(refusal(row_heights, rows), ("BadRows", popped - 1), row)

    def test_values_may_stay_below(self):
        rows = (ONE, ONE, ONE, ("op", "+"), ("tell", "hi", 2), END)
        self.assertEqual(row_heights(rows), (0, 1, 2, 3, 2, 0))

    def test_rows_that_ask_for_an_empty_stack(self):
        for row in (("count",), ("leave",), END):
            self.assertEqual(refusal(row_heights, (ONE, row, END)), ("BadRows", 1))
        self.assertEqual(row_heights((("leave",),)), (0,))

    def test_false_and_true(self):
        for word in ("false", "true"):
            rows = (ONE, (word, 4), ONE, ("truth",), ("put", "q"), END)
            self.assertEqual(row_heights(rows), (0, 1, 0, 1, 1, 0))
            self.assertEqual(refusal(row_heights, ((word, 1), END)), ("BadRows", 0))

    def test_false_and_true_to_the_row_behind(self):
        for word in ("false", "true"):
            self.assertEqual(refusal(row_heights, (ONE, (word, 2), END)), ("BadRows", 2))
            self.assertEqual(refusal(row_heights, (ONE, (word, 2))), ("BadRows", 1))

    def test_unless_to_the_row_behind(self):
        self.assertEqual(row_heights((ONE, ("unless", 2), END)), (0, 1, 0))

    def test_following_rows_that_are_none(self):
        self.assertEqual(refusal(row_heights, (("count",),)), ("BadRows", 0))
        self.assertEqual(refusal(row_heights, (ONE, ("put", "q"))), ("BadRows", 1))
        self.assertEqual(refusal(row_heights, (("count",), ("jump", 2))), ("BadRows", 1))
        self.assertEqual(refusal(row_heights, (("count",), ("jump", -1))), ("BadRows", 1))
        self.assertEqual(refusal(row_heights, (ONE, ("unless", 9), END)), ("BadRows", 1))
        self.assertEqual(row_heights((("jump", 1), END)), (0, 0))
        self.assertEqual(row_heights((("jump", 0),)), (0,))

    def test_another_height(self):
        self.assertEqual(refusal(row_heights, (ONE, ("jump", 0))), ("BadRows", 0))
        self.assertEqual(refusal(row_heights, (ONE, ("unless", 3), ONE, ONE, ("put", "q"), END)), ("BadRows", 3))
        self.assertEqual(refusal(row_heights, (ONE, ONE, ("unless", 0), END)), ("BadRows", 0))

    def test_the_first_following_row_that_fails_decides(self):
        # At row 2 the row 0 has another height, and the row behind is none.
        self.assertEqual(refusal(row_heights, (ONE, ONE, ("unless", 0))), ("BadRows", 0))
        # At row 1 the row behind gets its height, and only then the row 7 is none.
        self.assertEqual(refusal(row_heights, (ONE, ("unless", 7), ("put", "q"), END)), ("BadRows", 1))
        # At row 2 the row -1 comes before row 0.
        self.assertEqual(refusal(row_heights, (ONE, ONE, ("unless", -1))), ("BadRows", 2))

    def test_the_height_of_a_row_comes_before_its_following_rows(self):
        self.assertEqual(refusal(row_heights, (("unless", 9),)), ("BadRows", 0))
        self.assertEqual(refusal(row_heights, (("put", "q"),)), ("BadRows", 0))

    def test_the_least_row_is_looked_at_first(self):
        # The row 2 fails, but from row 1 the row 4 is reached, too, which is looked at later.
        rows = (ONE, ("unless", 4), ("put", "q"), END, ("put", "q"), END)
        self.assertEqual(refusal(row_heights, rows), ("BadRows", 2))
        # The row 4 is reached first, and from there the row 1, which comes before row 5.
        rows = (("jump", 4), ("put", "q"), END, END, ONE, ("unless", 1), ("put", "q"))
        self.assertEqual(refusal(row_heights, rows), ("BadRows", 1))

    def test_rows_that_no_row_leads_to(self):
        rows = (("jump", 3), ("put", "q"), ("jump", 99), ("leave",), ("op", "+"), END)
        self.assertEqual(row_heights(rows), (0, None, None, 0, None, None))

    def test_a_backward_way_reaches_a_row_late(self):
        rows = (("jump", 3), ("put", "q"), END, ONE, ("jump", 1))
        self.assertEqual(row_heights(rows), (0, 1, 0, 0, 1))

    def test_many_rows(self):
        rows = (ONE,) * 1000 + (("put", "q"),) * 999 + (("put", "q"), END)
        self.assertEqual(row_heights(rows), tuple(range(1001)) + tuple(range(999, -1, -1)))
        rows = tuple(row for at in range(999) for row in (ONE, ("unless", 1998 + at % 2))) + (END, END)
        self.assertEqual(row_heights(rows), (0, 1) * 999 + (0, 0))


if __name__ == "__main__":
    unittest.main()
