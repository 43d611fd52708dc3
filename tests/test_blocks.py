import unittest

from tests.texts import life_text
from wokenlives.blocks import behind, depth_of, fill, has_inner, numbered, with_inner
from wokenlives.reading import read_tree

INNER = ("inner",)
LEAVE = ("leave",)
SLEEP = ("sleep",)
ONE = ("number", 1)


def block_of(body):
    return read_tree(life_text(body))[0][4][0][1]


class InnerTest(unittest.TestCase):
    def test_has_inner(self):
        self.assertIs(has_inner(()), False)
        self.assertIs(has_inner((LEAVE,)), False)
        self.assertIs(has_inner((LEAVE, INNER)), True)
        for body in ("if 1 { inner; }", "if 1 { } else { inner; }", "while 1 { inner; }",
                     "leave; while 1 { if 1 { leave; } else { while 1 { sleep; inner; } } } leave;"):
            self.assertIs(has_inner(block_of(body)), True, body)
            self.assertIs(has_inner(block_of(body.replace("inner", "leave"))), False, body)

    def test_with_inner(self):
        self.assertEqual(with_inner(()), (INNER,))
        self.assertEqual(with_inner((LEAVE,)), (LEAVE, INNER))
        for body in ("inner;", "inner; leave;", "if 1 { } else { inner; }", "while 1 { inner; } sleep;"):
            self.assertEqual(with_inner(block_of(body)), block_of(body))

    def test_fill(self):
        two = (LEAVE, SLEEP)
        self.assertEqual(fill((INNER,), two), two)
        self.assertEqual(fill((SLEEP, INNER, LEAVE), two), (SLEEP, LEAVE, SLEEP, LEAVE))
        self.assertEqual(fill((SLEEP, INNER), ()), (SLEEP,))
        self.assertEqual(fill((INNER,), ()), ())
        self.assertEqual(fill((LEAVE,), two), (LEAVE,))
        self.assertEqual(fill((), two), ())

    def test_fill_inside_of_statements(self):
        for body in ("if 1 { I } else { leave; }", "if 1 { leave; } else { I }", "while 1 { I } sleep;",
                     "sleep; while 1 { if 1 { } else { leave; I leave; } } leave;"):
            block = block_of(body.replace("I", "inner;"))
            for other in ("leave; sleep;", "", "while 1 { if 1 { inner; } }"):
                self.assertEqual(fill(block, block_of(other)), block_of(body.replace("I", other)), body)


class NumbersTest(unittest.TestCase):
    def test_numbered(self):
        self.assertEqual(numbered(()), [])
        inside = ("while", ONE, (SLEEP,))
        choice = ("if", ONE, (inside, LEAVE), (SLEEP,))
        self.assertEqual(numbered((SLEEP, choice, LEAVE)), [SLEEP, choice, inside, SLEEP, LEAVE, SLEEP, LEAVE])

    def all_behind(self, body):
        block = block_of(body)
        return [behind(block, at + 1) for at in range(len(numbered(block)))]

    def test_the_example(self):
        block = (("while", ("me",), (("sleep",), ("leave",))), ("leave",))
        self.assertEqual([behind(block, 1), behind(block, 2), behind(block, 3), behind(block, 4)], [4, 3, 1, None])

    def test_behind_in_a_body(self):
        self.assertEqual(self.all_behind("sleep;"), [None])
        self.assertEqual(self.all_behind("sleep; sleep; leave;"), [2, 3, None])

    def test_behind_the_last_one_of_an_if(self):
        self.assertEqual(self.all_behind("if 1 { sleep; sleep; } leave;"), [4, 3, 4, None])
        self.assertEqual(self.all_behind("if 1 { sleep; }"), [None, None])
        self.assertEqual(self.all_behind("if 1 { } leave;"), [2, None])

    def test_behind_the_last_one_of_an_else(self):
        self.assertEqual(self.all_behind("if 1 { sleep; } else { sleep; sleep; } leave;"), [5, 5, 4, 5, None])
        self.assertEqual(self.all_behind("if 1 { sleep; } else { leave; }"), [None, None, None])

    def test_behind_the_last_one_of_a_while(self):
        self.assertEqual(self.all_behind("while 1 { sleep; sleep; }"), [None, 3, 1])
        self.assertEqual(self.all_behind("sleep; while 1 { if 1 { sleep; } else { leave; } }"), [2, None, 2, 2, 2])
        self.assertEqual(self.all_behind("while 1 { while 2 { sleep; } } leave;"), [4, 1, 2, None])
        self.assertEqual(self.all_behind("while 1 { while 2 { } sleep; }"), [None, 3, 1])
        self.assertEqual(self.all_behind("if 1 { while 2 { sleep; } } leave;"), [4, 4, 2, None])


class DepthTest(unittest.TestCase):
    def test_depth_of(self):
        for body, depth in (
            ("", 1), ("leave;", 1), ("if 1 { }", 2), ("while 1 { }", 2), ("if 1 { } else { while 1 { } }", 3),
            ("if 1 { while 1 { } } else { leave; }", 3), ("while 1 { while 1 { while 1 { } } } if 1 { }", 4),
        ):
            self.assertEqual(depth_of(block_of(body)), depth, body)


if __name__ == "__main__":
    unittest.main()
