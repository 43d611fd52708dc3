import unittest

from wokenlives.blocks import fill, with_inner
from wokenlives.flats import bodies, flat_class, flat_tree, line_of
from wokenlives.names import check_names
from wokenlives.reading import name_rows, read_tree
from wokenlives.writing import write_tree

TEXT = """
cell n = 0;
class c(z) within b {
  deed d(t) { set n = 3; }
  var k = 3;
  life { set n = 33; inner; set n = 34; }
  deed f() { }
}
class a(x) {
  var i = 1;
  deed e() { leave; }
  life { set n = 11; while x { inner; } set n = 12; }
  deed d(r) { set n = 1; }
}
class b(y, w) within a {
  deed g() { }
  deed d(s) { set n = 2; }
  var j = -2;
}
start ann = c(1, 2, 3, 4);
"""


def flats(text, name):
    return flat_class(read_tree(text), name)


class LineTest(unittest.TestCase):
    def test_lines(self):
        tree = read_tree(TEXT)
        self.assertEqual(line_of(tree, "c"), ["a", "b", "c"])
        self.assertEqual(line_of(tree, "b"), ["a", "b"])
        self.assertEqual(line_of(tree, "a"), ["a"])


class FlatClassTest(unittest.TestCase):
    FLAT = """
    class c(x, y, w, z) {
      var i = 1; var j = -2; var k = 3;
      deed e() { leave; } deed d(t) { set n = 3; } deed g() { } deed f() { }
      life { set n = 11; while x { set n = 33; set n = 34; } set n = 12; }
    }
    """

    def test_a_line_of_three_classes(self):
        self.assertEqual(flats(TEXT, "c"), read_tree(self.FLAT)[0])

    def test_a_class_without_a_life(self):
        self.assertEqual(flats("class a() { }", "a"), ("class", "a", (), None, (("life", ()),)))
        self.assertEqual(flats("class a() { life { leave; } } class b() within a { }", "b"),
                         ("class", "b", (), None, (("life", (("leave",),)),)))

    def test_a_life_without_an_inner_place_goes_before(self):
        text = "class a() { life { sleep; } } class b() within a { life { leave; } } class c() within b { life { sleep; } }"
        self.assertEqual(flats(text, "c")[4], (("life", (("sleep",), ("leave",), ("sleep",))),))

    def test_an_outermost_class_without_a_life(self):
        text = "class a() { } class b() within a { life { leave; inner; sleep; } } class c() within b { life { sleep; } }"
        self.assertEqual(flats(text, "c")[4], (("life", (("leave",), ("sleep",), ("sleep",))),))

    def test_an_inner_place_that_is_left(self):
        text = "class a() { life { if 1 { } else { inner; } while 1 { } } }"
        self.assertEqual(flats(text, "a")[4][0][1], (("if", ("number", 1), (), ()), ("while", ("number", 1), ())))

    def test_the_life_stands_last(self):
        found = flats("class a() { life { leave; } var v = 0; deed d() { } var w = 1; }", "a")
        self.assertEqual([member[0] for member in found[4]], ["var", "var", "deed", "life"])

    def test_deeds_stand_where_their_names_first_occur(self):
        text = "class a() { deed p() { } deed q() { } } class b() within a { deed r() { } deed q() { leave; } deed p() { } }"
        self.assertEqual([member[1:] for member in flats(text, "b")[4][:-1]],
                         [("p", (), ()), ("q", (), (("leave",),)), ("r", (), ())])

    def test_lives_put_together_from_the_innermost_class(self):
        lives = ("sleep;", "", "if 1 { inner; } leave;", "inner;", "while 2 { sleep; inner; sleep; }", "leave; inner;")
        for first in lives:
            for second in lives:
                for third in lives:
                    text = f"class a() {{ life {{ {first} }} }} class b() within a {{ life {{ {second} }} }} " \
                           f"class c() within b {{ life {{ {third} }} }}"
                    tree = read_tree(text)
                    one, two, three = [with_inner(item[4][0][1]) for item in tree]
                    inside = fill(one, fill(two, fill(three, ())))
                    self.assertEqual(flat_class(tree, "c")[4], (("life", inside),))


class FlatTreeTest(unittest.TestCase):
    def test_classes_are_replaced(self):
        tree = read_tree(TEXT)
        flat = flat_tree(tree)
        self.assertEqual([item[:2] for item in flat], [item[:2] for item in tree])
        for before, after in zip(tree, flat):
            wanted = flat_class(tree, before[1]) if before[0] == "class" else before
            self.assertEqual(after, wanted)
        self.assertEqual(flat_tree(()), ())

    def test_the_flat_tree_of_a_flat_tree_is_itself(self):
        flat = flat_tree(read_tree(TEXT))
        self.assertEqual(flat_tree(flat), flat)

    def test_its_names_are_right(self):
        text = write_tree(flat_tree(read_tree(TEXT)))
        self.assertIsNone(check_names(name_rows(text), read_tree(text)))


class BodiesTest(unittest.TestCase):
    def test_the_life_first_and_then_the_deeds(self):
        found = bodies(flats(TEXT, "c"))
        self.assertEqual(list(found), ["life", "e", "d", "g", "f"])
        self.assertEqual(found["e"], (("leave",),))
        self.assertEqual(found["d"], (("set", ("name", "n"), ("number", 3)),))
        self.assertEqual(found["life"], flats(TEXT, "c")[4][-1][1])
        self.assertEqual(bodies(flats("class a() { }", "a")), {"life": ()})

    def test_each_dict_is_new(self):
        flat = flats(TEXT, "c")
        bodies(flat).clear()
        self.assertEqual(len(bodies(flat)), 5)


if __name__ == "__main__":
    unittest.main()
