import unittest

from tests.texts import life_text
from wokenlives.reading import read_tree
from wokenlives.writing import write_expression, write_tree

WHOLE = """cell count = -3;
line queue;
store desk = 2;
gate door open;
gate exit shut;
wheel turn = 4;
mark done = 0;
class a() {
}
class b(p, q) within a {
  var v = -1;
  deed d(x, y) {
    if x {
    } else {
      leave;
    }
  }
  deed e() {
  }
  life {
    set count = 1;
    set p.done = -(v + 1) * length(queue);
    set me.done = none;
    tell met(p, not q);
    tell quiet();
    if p == q {
      while not (p or q) {
        inner;
      }
    } else {
      if now {
        do d(1, me.done);
      }
      do e();
    }
    hold first(queue);
    sleep;
    wake p;
    wake p after q + 1;
    stop me;
    seize spare(desk) of desk;
    free 1 of desk;
    wait door;
    open door;
    shut exit;
    put waiting(desk) into queue;
    take v from turn;
    take me.done from queue;
    make p.done = b(1, stand(v));
    make v = a();
    leave;
  }
}
start ann = a() at 0;
start bob = b(-1, 0) at 7;
start cat = b(1, 2) asleep;
"""


def expression(text):
    return read_tree(life_text(f"hold {text};"))[0][4][0][1][0][1]


class TreesTest(unittest.TestCase):
    def test_the_empty_tree(self):
        self.assertEqual(write_tree(()), "")

    def test_each_form(self):
        self.assertEqual(write_tree(read_tree(WHOLE)), WHOLE)

    def test_read_written_and_read_again(self):
        squeezed = "\n".join([row.strip() + " # no" for row in WHOLE.split("\n")]).replace(" = ", "=")
        tree = read_tree(squeezed)
        self.assertEqual(tree, read_tree(WHOLE))
        self.assertEqual(write_tree(tree), WHOLE)

    def test_an_empty_else_is_not_written(self):
        text = life_text("if 1 { leave; } else { }")
        self.assertEqual(write_tree(read_tree(text)),
                         "class c() {\n  life {\n    if 1 {\n      leave;\n    }\n  }\n}\n")

    def test_an_empty_block_before_else_is_written(self):
        text = life_text("if 1 { } else { if 2 { } else { leave; } }")
        self.assertEqual(write_tree(read_tree(text)), "\n".join((
            "class c() {", "  life {", "    if 1 {", "    } else {", "      if 2 {", "      } else {",
            "        leave;", "      }", "    }", "  }", "}", "",
        )))

    def test_no_when_is_written_as_at_0(self):
        self.assertEqual(write_tree(read_tree("start a = b(-0, - 5);")), "start a = b(0, -5) at 0;\n")


class ExpressionsTest(unittest.TestCase):
    def test_the_example(self):
        expr = ("*", ("+", ("name", "a"), ("number", 1)), ("neg", ("name", "b")))
        self.assertEqual(write_expression(expr), "(a + 1) * -b")

    def test_parentheses_that_are_needed(self):
        for text in (
            "(a or b) and c", "a or (b or c)", "a and (b and c)", "not (a and b)", "(not a) == b", "a == (not b)",
            "(a == b) == c", "a == (b == c)", "(a < b) + 1", "a - (b - c)", "a - (b + c)", "(a + b) * c",
            "a * (b / c)", "a mod (b * c)", "-(a + b)", "-(a * b)", "-(a == b)", "(not a) + b", "-(not a)",
            "(a or b) == c", "a + (b and c)", "(not a) < (not b)",
        ):
            self.assertEqual(write_expression(expression(text)), text)

    def test_parentheses_that_are_not_needed(self):
        for text, wanted in (
            ("(a and b) or c", "a and b or c"), ("a or (b and c)", "a or b and c"), ("(a or b) or c", "a or b or c"),
            ("(not a) and b", "not a and b"), ("a and (not b)", "a and not b"), ("not (not a)", "not not a"),
            ("not (a == b)", "not a == b"), ("(a + b) == (c - d)", "a + b == c - d"), ("(a - b) - c", "a - b - c"),
            ("a + (b * c)", "a + b * c"), ("(a / b) * c", "a / b * c"), ("(-a) * b", "-a * b"), ("a - (-b)", "a - -b"),
            ("-(-a)", "--a"), ("stand((a or b))", "stand(a or b)"), ("(((a)))", "a"), ("-(me.m)", "-me.m"),
            ("(a == b) and (c == d)", "a == b and c == d"), ("-(stand(a))", "-stand(a)"),
        ):
            self.assertEqual(write_expression(expression(text)), wanted)
            self.assertEqual(expression(wanted), expression(text))

    def test_comparisons_beside_other_operators(self):
        for sign in "== != < <= > >=".split():
            for text in (f"a + b {sign} c - d", f"(a {sign} b) + 1", f"(a {sign} b) {sign} (c {sign} d)",
                         f"not a {sign} b", f"(not a) {sign} b", f"a {sign} b or c {sign} d"):
                self.assertEqual(write_expression(expression(text)), text)

    def test_all_pairs_of_operators(self):
        signs = "or and == != < <= > >= + - * / mod".split()
        parts = [(sign, ("name", "a"), ("number", 2)) for sign in signs] + [("not", ("me",)), ("neg", ("now",))]
        for part in parts:
            whole = [("not", part), ("neg", part), ("stand", part)]
            for sign in signs:
                whole.extend([(sign, part, ("none",)), (sign, ("none",), part)])
            for expr in whole:
                text = write_expression(expr)
                self.assertEqual(expression(text), expr, text)
                self.check_that_no_pair_is_too_many(text, expr)

    def check_that_no_pair_is_too_many(self, text, expr):
        if "(" in text and expr[0] != "stand":
            without = text.replace("(", "").replace(")", "")
            try:
                self.assertNotEqual(expression(without), expr, text)
            except ValueError:
                pass


if __name__ == "__main__":
    unittest.main()
