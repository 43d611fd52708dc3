import unittest

from wokenlives.owns import first_own
from wokenlives.programs import read_program

TEXT = """
class b(z) within a { var y = 4; deed d(u) { } }
class a(x) { var v = -7; life { sleep; } var i = 0; }
class e() { }
"""


class FirstOwnTest(unittest.TestCase):
    def test_arguments_and_vars_of_the_flat_class(self):
        flats = read_program(TEXT).flats
        self.assertEqual(first_own(flats["a"], (None,)), ("a", (None, -7, 0), (("life", 0, ()),), (), None, 0))
        self.assertEqual(first_own(flats["b"], (8, "ann.1")),
                         ("b", (8, "ann.1", -7, 0, 4), (("life", 0, ()),), (), None, 0))
        self.assertEqual(first_own(flats["e"], ()), ("e", (), (("life", 0, ()),), (), None, 0))


if __name__ == "__main__":
    unittest.main()
