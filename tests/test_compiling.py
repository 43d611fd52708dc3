"""Points 47 to 50."""

import random
import unittest

from tests.chance import random_program_text
from wokenlives.blocks import numbered
from wokenlives.compiling import compile_body, compile_expression
from wokenlives.flats import bodies
from wokenlives.heights import row_heights
from wokenlives.programs import read_program
from wokenlives.reading import read_tree

ITEMS = "cell c = 0; line q; store s = 3; gate g shut; wheel w = 3; mark m = 0; start ann = k(0, 0);"
COUNT = ("count",)
END = ("end",)


def life_rows(life):
    """The compiled life of a class with the params p and o and the var v."""
    program = read_program(ITEMS + "class k(p, o) { var v = 1; deed d(a, b) { } deed e() { } life { " + life + " } }")
    return compile_body(program, program.flats["k"], "life")


class ExpressionTest(unittest.TestCase):
    PROGRAM = read_program(ITEMS + "class k(p, o) { var v = 1; deed d(a, b) { } }")

    def rows(self, text, body="life"):
        expr = read_tree("class k() { life { hold " + text + "; } }")[0][4][0][1][0][1]
        return compile_expression(self.PROGRAM, self.PROGRAM.flats["k"], body, expr)

    def test_single_rows(self):
        for text, row in (("7", ("value", 7)), ("none", ("value", None)), ("me", ("me",)), ("now", ("now",)),
                          ("p", ("own", 0)), ("o", ("own", 1)), ("v", ("own", 2)), ("c", ("look", "c")),
                          ("ann", ("name", "ann")), ("length(q)", ("ask", "length", "q")),
                          ("first(q)", ("ask", "first", "q")), ("spare(s)", ("ask", "spare", "s")),
                          ("waiting(g)", ("ask", "waiting", "g")), ("isopen(g)", ("ask", "isopen", "g"))):
            self.assertEqual(self.rows(text), (row,))

    def test_arguments(self):
        self.assertEqual(self.rows("a + b * p", "d"),
                         (("argument", 0), ("argument", 1), ("own", 0), ("op", "*"), ("op", "+")))

    def test_marks_and_parts(self):
        self.assertEqual(self.rows("me.m"), (("me",), ("mark", "m")))
        self.assertEqual(self.rows("c.m"), (("look", "c"), ("mark", "m")))
        self.assertEqual(self.rows("ann.m"), (("name", "ann"), ("mark", "m")))
        self.assertEqual(self.rows("stand(-v)"), (("own", 2), ("neg",), ("stand",)))
        self.assertEqual(self.rows("not not c"), (("look", "c"), ("not",), ("not",)))

    def test_operators(self):
        for sign in ("==", "!=", "<", "<=", ">", ">=", "+", "-", "*", "/", "mod"):
            self.assertEqual(self.rows(f"1 {sign} me"), (("value", 1), ("me",), ("op", sign)))

    def test_and_or(self):
        self.assertEqual(self.rows("p and o"), (("own", 0), ("false", 4), ("own", 1), ("truth",)))
        self.assertEqual(self.rows("p or o"), (("own", 0), ("true", 4), ("own", 1), ("truth",)))
        self.assertEqual(self.rows("1 or p and o"), (
            ("value", 1), ("true", 7), ("own", 0), ("false", 6), ("own", 1), ("truth",), ("truth",)))
        self.assertEqual(self.rows("(1 or p) and o"), (
            ("value", 1), ("true", 4), ("own", 0), ("truth",), ("false", 7), ("own", 1), ("truth",)))

    def test_the_class_is_the_one_that_is_passed(self):
        program = read_program("cell c = 0; class a(x) { } class b(y) within a { var z = 0; }")
        expr = ("name", "x")
        self.assertEqual(compile_expression(program, program.flats["a"], "life", expr), (("own", 0),))
        self.assertEqual(compile_expression(program, program.flats["b"], "life", ("name", "y")), (("own", 1),))
        self.assertEqual(compile_expression(program, program.flats["b"], "life", ("name", "z")), (("own", 2),))


class OuterArgumentTest(unittest.TestCase):
    def test_an_argument_comes_before_a_field_of_a_class_within(self):
        program = read_program("class a() { deed d(x) { hold x; } } class b(x) within a { life { hold x; } }")
        flat = program.flats["b"]
        self.assertEqual(compile_body(program, flat, "d")[0], (COUNT, ("argument", 0), ("hold", 1), END))
        self.assertEqual(compile_body(program, flat, "life")[0], (COUNT, ("own", 0), ("hold", 1), END))


class StatementTest(unittest.TestCase):
    def check(self, text, *rows):
        """The rows of a statement with the number 2, behind a leave."""
        found, behind = life_rows("leave; " + text)
        self.assertEqual(found, (COUNT, ("leave",), COUNT) + rows + (END,))
        self.assertEqual(behind, (2, len(found) - 1))

    def test_set(self):
        self.check("set v = 1;", ("value", 1), ("setown", 2))
        self.check("set c = me;", ("me",), ("set", "c"))
        self.check("set me.m = 1;", ("value", 1), ("me",), ("setmark", "m"))
        self.check("set p.m = 1;", ("value", 1), ("own", 0), ("setmark", "m"))
        self.check("set c.m = 1;", ("value", 1), ("look", "c"), ("setmark", "m"))

    def test_set_of_an_argument(self):
        program = read_program("class k() { deed d(a, b) { set b = a; } }")
        self.assertEqual(compile_body(program, program.flats["k"], "d"),
                         ((COUNT, ("argument", 0), ("setargument", 1), END), (3,)))

    def test_tell_and_do(self):
        self.check("tell hi();", ("tell", "hi", 0))
        self.check("tell hi(1, v);", ("value", 1), ("own", 2), ("tell", "hi", 2))
        self.check("do e();", ("call", "e", 0, 2))
        self.check("do d(me, 3);", ("me",), ("value", 3), ("call", "d", 2, 2))

    def test_rests_and_others(self):
        self.check("hold 1;", ("value", 1), ("hold", 2))
        self.check("sleep;", ("sleep", 2))
        self.check("wake me;", ("me",), ("wake",))
        self.check("wake me after 3;", ("me",), ("value", 3), ("wakeafter",))
        self.check("stop ann;", ("name", "ann"), ("stop",))
        self.check("seize 2 of s;", ("value", 2), ("seize", "s", 2))
        self.check("free 2 of s;", ("value", 2), ("free", "s"))
        self.check("wait g;", ("wait", "g", 2))
        self.check("open g;", ("open", "g"))
        self.check("shut g;", ("shut", "g"))
        self.check("put none into q;", ("value", None), ("put", "q"))
        self.check("leave;", ("leave",))

    def test_take_and_make(self):
        self.check("take v from q;", ("take", "q"), ("setown", 2))
        self.check("take c.m from w;", ("take", "w"), ("look", "c"), ("setmark", "m"))
        self.check("make v = k(1, me);", ("value", 1), ("me",), ("make", "k", 2), ("setown", 2))
        self.check("make c = k(1, 2);", ("value", 1), ("value", 2), ("make", "k", 2), ("set", "c"))


class BodyTest(unittest.TestCase):
    def test_an_empty_body(self):
        self.assertEqual(life_rows(""), ((END,), ()))

    def test_if(self):
        self.assertEqual(life_rows("if c { leave; } leave;"), (
            (COUNT, ("look", "c"), ("unless", 5), COUNT, ("leave",), COUNT, ("leave",), END), (5, 5, 7)))
        self.assertEqual(life_rows("if c { }"), ((COUNT, ("look", "c"), ("unless", 3), END), (3,)))
        self.assertEqual(life_rows("if c { } else { }"), life_rows("if c { }"))

    def test_if_with_else(self):
        self.assertEqual(life_rows("if c { leave; } else { sleep; }"), (
            (COUNT, ("look", "c"), ("unless", 6), COUNT, ("leave",), ("jump", 8), COUNT, ("sleep", 3), END), (8, 5, 8)))
        self.assertEqual(life_rows("if c { } else { sleep; }"), (
            (COUNT, ("look", "c"), ("unless", 4), ("jump", 6), COUNT, ("sleep", 2), END), (6, 6)))

    def test_while(self):
        self.assertEqual(life_rows("leave; while c { sleep; }"), (
            (COUNT, ("leave",), COUNT, ("look", "c"), ("unless", 8), COUNT, ("sleep", 3), ("jump", 2), END), (2, 8, 7)))
        self.assertEqual(life_rows("while c { }"), (
            (COUNT, ("look", "c"), ("unless", 4), ("jump", 0), END), (4,)))

    def test_blocks_inside_of_one_another(self):
        rows, behind = life_rows("while p and o { if v { sleep; } else { while 1 { leave; } } } leave;")
        self.assertEqual(rows, (
            COUNT, ("own", 0), ("false", 5), ("own", 1), ("truth",), ("unless", 19),
            COUNT, ("own", 2), ("unless", 12),
            COUNT, ("sleep", 3), ("jump", 18),
            COUNT, ("value", 1), ("unless", 18), COUNT, ("leave",), ("jump", 12),
            ("jump", 0),
            COUNT, ("leave",), END))
        self.assertEqual(behind, (19, 18, 11, 18, 17, 21))

    def test_rows_that_are_gone_to_are_counted_in_the_body(self):
        rows, _ = life_rows("leave; set v = p and o;")
        self.assertEqual(rows[3:8], (("own", 0), ("false", 7), ("own", 1), ("truth",), ("setown", 2)))

    def test_the_flat_life(self):
        program = read_program("class a() { life { sleep; inner; sleep; } } class b() within a { life { leave; } }")
        self.assertEqual(compile_body(program, program.flats["b"], "life"),
                         ((COUNT, ("sleep", 1), COUNT, ("leave",), COUNT, ("sleep", 3), END), (2, 4, 6)))

    def test_random_programs(self):
        for seed in range(40):
            program = read_program(random_program_text(random.Random(seed)))
            for flat in program.flats.values():
                for body, block in bodies(flat).items():
                    rows, behind = compile_body(program, flat, body)
                    self.assertIsInstance(rows, tuple)
                    self.assertIsInstance(behind, tuple)
                    self.assertEqual(len(behind), len(numbered(block)))
                    self.assertEqual(rows.count(COUNT), len(behind))
                    self.assertEqual(rows[-1], END)
                    heights = row_heights(rows)
                    self.assertTrue(all(heights[at] in (0, None) for at in behind))


if __name__ == "__main__":
    unittest.main()
