import unittest

from tests.texts import refusal
from wokenlives.flats import flat_class
from wokenlives.programs import Program, read_program
from wokenlives.reading import read_tree

TEXT = """
start ann = c(1); cell n = 0; class c(p) within b { life { set n = p; } } line li; store st = 1;
gate ga shut; class b() { deed d() { } } wheel wh = 3; mark ma = 2;
"""


class ProgramTest(unittest.TestCase):
    def test_attributes(self):
        program = read_program(TEXT)
        self.assertIsInstance(program, Program)
        self.assertEqual(program.tree, read_tree(TEXT))
        self.assertEqual(list(program.kinds.items()), [
            ("ann", "start"), ("n", "cell"), ("c", "class"), ("li", "line"), ("st", "store"), ("ga", "gate"),
            ("b", "class"), ("wh", "wheel"), ("ma", "mark"),
        ])
        self.assertEqual(list(program.flats), ["c", "b"])
        for name in ("c", "b"):
            self.assertEqual(program.flats[name], flat_class(program.tree, name))

    def test_items(self):
        program = read_program(TEXT)
        for item in program.tree:
            self.assertEqual(program.item(item[1]), item)
        self.assertEqual(program.item("ga"), ("gate", "ga", "shut"))

    def test_the_empty_program(self):
        program = read_program("")
        self.assertEqual((program.tree, program.kinds, program.flats), ((), {}, {}))

    def test_form_comes_before_names(self):
        self.assertEqual(refusal(read_program, "cell x = 0; cell x = 0; !"), ("BadSign", 1, 25))
        self.assertEqual(refusal(read_program, "cell x = 0; cell x = 0; }"), ("BadForm", 1, 25))
        deep = "class c() { life { hold zz; hold " + "-" * 25 + "1; } }"
        self.assertEqual(refusal(read_program, deep), ("TooDeep", 1, 58))

    def test_names_are_checked(self):
        self.assertEqual(refusal(read_program, "cell x = 0; cell x = 0;"), ("DoubleName", "x", 1, 18))
        self.assertEqual(refusal(read_program, "start a = c();"), ("UnknownName", "c", 1, 11))


if __name__ == "__main__":
    unittest.main()
