import unittest

from tests.texts import refusal
from wokenlives.names import chain_of, check_names, visible
from wokenlives.reading import name_rows, read_tree


def check(text):
    """The error of the names of a text as (class, name, row, column), or None."""
    return refusal(check_names, name_rows(text), read_tree(text))


def classes(*words):
    """Empty classes; a word `a:b` is a class a within b."""
    found = []
    for word in words:
        name, _, outer = word.partition(":")
        found.append(f"class {name}() " + (f"within {outer} " if outer else "") + "{ }")
    return " ".join(found)


ITEMS = "cell ce = 0; line li; store st = 2; gate ga open; wheel wh = 2; mark ma = 0; start sa = k(); class k() { } "


class NamesCase(unittest.TestCase):
    def refused(self, text, error, name, times=1):
        """The text is refused at the token of this name which stands there as the one of this number."""
        rows = [row for row in name_rows(text) if row[1] == name]
        self.assertEqual(check(text), (error, name) + rows[times - 1][5:], text)

    def right(self, text):
        self.assertIsNone(check(text), text)


class ChainTest(unittest.TestCase):
    def chain(self, text, owner):
        return chain_of(name_rows(text), owner)

    def test_chains(self):
        text = "cell x = 0; " + classes("c:b", "b:a", "a")
        self.assertEqual(self.chain(text, "c"), ["c", "b", "a"])
        self.assertEqual(self.chain(text, "b"), ["b", "a"])
        self.assertEqual(self.chain(text, "a"), ["a"])

    def test_no_class(self):
        for owner in ("", "x", "z"):
            self.assertEqual(self.chain("cell x = 0; class a() within z { }", owner), [])
        self.assertEqual(self.chain("", "a"), [])

    def test_a_chain_stops_before_a_name_of_no_class(self):
        self.assertEqual(self.chain("cell x = 0; " + classes("a:x", "b:a", "c:z"), "b"), ["b", "a"])
        self.assertEqual(self.chain("cell x = 0; " + classes("a:x", "b:a", "c:z"), "c"), ["c"])

    def test_rings(self):
        text = classes("a:b", "b:c", "c:b", "d:d")
        self.assertEqual(self.chain(text, "a"), ["a", "b", "c"])
        self.assertEqual(self.chain(text, "b"), ["b", "c"])
        self.assertEqual(self.chain(text, "c"), ["c", "b"])
        self.assertEqual(self.chain(text, "d"), ["d"])

    def test_of_two_classes_of_one_name_the_first_counts(self):
        text = classes("a:b", "b", "c", "a:c", "d:a")
        self.assertEqual(self.chain(text, "d"), ["d", "a", "b"])
        self.assertEqual(self.chain(classes("a", "b", "a:b"), "a"), ["a"])

    def test_a_class_whose_name_is_another_item_first(self):
        self.assertEqual(self.chain("cell a = 0; " + classes("b", "a:b"), "a"), ["a", "b"])


class VisibleTest(unittest.TestCase):
    def seen(self, text, name, owner="", deed=""):
        return visible(name_rows(text), name, owner, deed)

    def test_items(self):
        for name, role in (("ce", "cell"), ("li", "line"), ("st", "store"), ("ga", "gate"), ("wh", "wheel"),
                           ("ma", "mark"), ("sa", "start"), ("k", "class"), ("zz", None)):
            for owner, deed in (("", ""), ("k", ""), ("k", "d"), ("zz", "d")):
                self.assertEqual(self.seen(ITEMS, name, owner, deed), role)

    def test_of_items_the_first_one_counts(self):
        self.assertEqual(self.seen("line x; cell x = 0; class x() { }", "x"), "line")
        self.assertEqual(self.seen("class x() { } line x;", "x"), "class")

    TEXT = """
    class out(p) { var v = 0; deed d(a) { } deed e(b) { } }
    class mid(q) within out { deed d(c) { } var e = 0; }
    cell a = 0;
    """

    def test_members_of_the_chain(self):
        for name, role in (("p", "param"), ("v", "var"), ("q", "param"), ("d", "deed"), ("e", "var"), ("a", "cell"),
                           ("b", None), ("c", None), ("mid", "class")):
            self.assertEqual(self.seen(self.TEXT, name, "mid"), role, name)
        for name, role in (("q", None), ("e", "deed"), ("p", "param")):
            self.assertEqual(self.seen(self.TEXT, name, "out"), role, name)
        self.assertIsNone(self.seen(self.TEXT, "p"))

    def test_arguments_of_the_deed_that_the_owner_declares(self):
        self.assertEqual(self.seen(self.TEXT, "a", "out", "d"), "argument")
        self.assertEqual(self.seen(self.TEXT, "b", "out", "e"), "argument")
        self.assertEqual(self.seen(self.TEXT, "a", "out", "e"), "cell")
        self.assertEqual(self.seen(self.TEXT, "c", "mid", "d"), "argument")
        self.assertEqual(self.seen(self.TEXT, "a", "mid", "d"), "cell")
        self.assertIsNone(self.seen(self.TEXT, "b", "mid", "e"))
        self.assertIsNone(self.seen(self.TEXT, "b", "", "e"))

    def test_one_name_at_several_places(self):
        text = "class o() { deed x() { } } class c() within o { var x = 0; deed d(x) { } } cell x = 0;"
        self.assertEqual(self.seen(text, "x", "c", "d"), "argument")
        self.assertEqual(self.seen(text, "x", "c", ""), "var")
        self.assertEqual(self.seen(text, "x", "o", ""), "deed")
        self.assertEqual(self.seen(text, "x", "", ""), "cell")

    def test_a_field_of_an_outer_class_goes_before_a_deed_of_the_class_itself(self):
        text = "class o(x) { } class c() within o { deed x() { } }"
        self.assertEqual(self.seen(text, "x", "c"), "param")

    def test_the_first_of_two_fields_counts(self):
        self.assertEqual(self.seen("class c(x) { var x = 0; }", "x", "c"), "param")
        self.assertEqual(self.seen("class o(x) { } class c() within o { var x = 0; }", "x", "c"), "var")

    def test_the_rows_of_a_second_class_of_one_name_are_left_out(self):
        text = "class c(p) { deed d(a) { } } class c(q) { var v = 0; deed d(b) { } deed e(f) { } } cell q = 0;"
        self.assertEqual(self.seen(text, "p", "c"), "param")
        self.assertEqual(self.seen(text, "a", "c", "d"), "argument")
        self.assertEqual(self.seen(text, "q", "c"), "cell")
        for name, deed in (("v", ""), ("b", "d"), ("e", ""), ("f", "e")):
            self.assertIsNone(self.seen(text, name, "c", deed), name)

    def test_rings(self):
        text = "class a(x) within b { } class b(y) within a { }"
        self.assertEqual(self.seen(text, "y", "a"), "param")
        self.assertEqual(self.seen(text, "x", "b"), "param")

    def test_no_class_asks_the_items_alone(self):
        text = "cell c = 0; cell x = 0;"
        self.assertEqual(self.seen(text, "x", "c", "d"), "cell")


class DoubleNameTest(NamesCase):
    def test_items(self):
        for second in ("cell x = 0;", "line x;", "mark x = 1;", "class x() { }", "start x = k();"):
            self.refused("gate x open; " + second, "DoubleName", "x", 2)
        self.refused(classes("x", "y", "x"), "DoubleName", "x", 2)
        self.right("cell x = 0; cell y = 0;")

    def test_a_member_and_any_item(self):
        for member in ("var x = 0;", "deed x() { }"):
            self.refused("cell x = 0; class c() { " + member + " }", "DoubleName", "x", 2)
            self.refused("class c() { " + member + " } cell x = 0;", "DoubleName", "x", 1)
        self.refused("class c(x) { } mark x = 0;", "DoubleName", "x", 1)
        self.refused("class c(c) { }", "DoubleName", "c", 2)
        self.refused("class c() { var d = 0; } class d() { }", "DoubleName", "d", 1)

    def test_members_of_one_class(self):
        for text in ("class c(x, x) { }", "class c(x) { var x = 0; }", "class c(x) { deed x() { } }",
                     "class c() { var x = 0; var x = 0; }", "class c() { deed x() { } var x = 0; }",
                     "class c() { var x = 0; deed x() { } }", "class c() { deed x() { } deed x() { } }"):
            self.refused(text, "DoubleName", "x", 2)
        for text in ("class c(x) { deed x(y) { } }", "class c() { var x = 0; deed x(y) { } }",
                     "class c() { deed x(y) { } var x = 0; }"):
            self.refused(text, "DoubleName", "x", 2)
        self.right("class c(x) { } class d(x) { }")
        self.right("class c() { var x = 0; } class d() { deed x() { } }")

    def test_members_of_outer_classes(self):
        for outer in ("(x) { }", "() { var x = 0; }", "() { deed x() { } }"):
            for inner in ("(x) within a { }", "() within a { var x = 0; }", "() within a { deed x() { } }"):
                for text, times in ((f"class a{outer} class b{inner}", 2), (f"class b{inner} class a{outer}", 1),
                                    (f"class a{outer} class m() within a {{ }} class b{inner.replace('within a', 'within m')}", 2)):
                    if "deed" in outer and "deed" in inner:
                        self.right(text)
                    else:
                        self.refused(text, "DoubleName", "x", times)

    def test_classes_beside_one_another(self):
        self.right("class a() { } class b(x) within a { } class c(x) within a { }")

    def test_arguments(self):
        self.refused("cell x = 0; class c() { deed d(x) { } }", "DoubleName", "x", 2)
        self.refused("class c() { deed d(x) { } } cell x = 0;", "DoubleName", "x", 1)
        self.refused("class c() { deed d(x, x) { } }", "DoubleName", "x", 2)
        self.refused("class c() { deed d(c) { } }", "DoubleName", "c", 2)
        self.refused("class c() { deed d(d) { } }", "DoubleName", "d", 2)
        self.refused("class c(x) { deed d(x) { } }", "DoubleName", "x", 2)
        self.refused("class c() { deed d(x) { } var x = 0; }", "DoubleName", "x", 1)
        self.refused("class c() { deed d(x) { } deed x() { } }", "DoubleName", "x", 1)
        self.refused("class c() within o { deed d(x) { } } class o() { var x = 0; }", "DoubleName", "x", 1)
        self.refused("class c() within o { deed d(x) { } } class o() { deed x() { } }", "DoubleName", "x", 1)

    def test_arguments_that_are_free(self):
        self.right("class c() { deed d(x) { } deed e(x) { } }")
        self.right("class o() { deed d(x) { } } class c() within o { deed d(x) { } }")
        self.right("class o() { deed d(x) { } } class c() within o { var x = 0; }")


class UnknownNameTest(NamesCase):
    def test_each_role(self):
        for body in ("set zz = 1;", "set zz.ma = 1;", "set me.zz = 1;", "hold zz;", "hold zz.ma;", "hold me.zz;", "do zz();",
                     "seize 1 of zz;", "free 1 of zz;", "hold spare(zz);", "wait zz;", "open zz;", "shut zz;",
                     "hold isopen(zz);", "put 1 into zz;", "hold length(zz);", "hold first(zz);", "take ce from zz;",
                     "hold waiting(zz);", "make ce = zz();"):
            self.refused(ITEMS + "class c() { life { " + body + " } }", "UnknownName", "zz")
        self.refused("class c() within zz { }", "UnknownName", "zz")
        self.refused("start c = zz();", "UnknownName", "zz")

    def test_a_word_is_free(self):
        self.right("class c() { life { tell zz(); tell c(); } }")
        self.right("class c() { deed d(x) { } life { tell d(); tell d(1, 2); } }")

    def test_outer_and_made_ask_the_items_alone(self):
        self.refused("class c() { var v = 0; life { make v = v(); } }", "UnknownName", "v", 3)
        self.refused("class o(v) { } class c() within v { }", "UnknownName", "v", 2)

    def test_arguments_of_other_deeds_and_inner_fields(self):
        self.refused("class c() { deed d(x) { } deed e() { hold x; } }", "UnknownName", "x", 2)
        self.refused("class c() { deed d(x) { } life { hold x; } }", "UnknownName", "x", 2)
        self.refused("class o() { life { hold x; } } class c(x) within o { }", "UnknownName", "x", 1)
        self.refused("class o() { deed d(x) { } } class c() within o { deed d(y) { hold x; } }", "UnknownName", "x", 2)
        self.right("class o(x) { var y = 0; } class c() within o { life { hold x + y; } }")
        self.right("class c() { life { do d(); hold x; } var x = 0; deed d() { } }")


class WrongKindTest(NamesCase):
    FIT = {
        "hold {};": "av pv va ce sa", "hold {}.ma;": "av pv va ce sa", "set {}.ma = 1;": "av pv va ce sa",
        "set {} = 1;": "av pv va ce", "take {} from li;": "av pv va ce", "make {} = k();": "av pv va ce",
        "set me.{} = 1;": "ma", "hold me.{};": "ma", "hold ce.{};": "ma", "do {}();": "d0",
        "seize 1 of {};": "st", "free 1 of {};": "st", "hold spare({});": "st",
        "wait {};": "ga", "open {};": "ga", "shut {};": "ga", "hold isopen({});": "ga",
        "put 1 into {};": "li", "hold length({});": "li", "hold first({});": "li", "take ce from {};": "li wh",
        "hold waiting({});": "st ga", "make ce = {}();": "k",
    }
    NAMES = "av pv va d0 ce li st ga wh ma sa k".split()

    def test_each_role_with_each_kind(self):
        for form, fitting in self.FIT.items():
            for name in self.NAMES:
                front = ITEMS + "class c(pv) { var va = 0; deed d0() { } deed dd(av) { "
                text = front + form.format(name) + " } }"
                place = (name, 1, len(front) + form.index("{}") + 1)
                if name in fitting.split():
                    self.right(text)
                elif name in ("av", "pv", "va", "d0") and form.startswith("make ce"):
                    self.assertEqual(check(text), ("UnknownName",) + place)
                else:
                    self.assertEqual(check(text), ("WrongKind",) + place)

    def test_outer_and_made(self):
        for name in "ce li st ga wh ma sa".split():
            self.refused(ITEMS + f"class c() within {name} {{ }}", "WrongKind", name, 2)
            self.refused(ITEMS + f"start c = {name}();", "WrongKind", name, 2)
        self.right(ITEMS + "class c() within k { } start d = c();")


class WrongCountTest(NamesCase):
    def test_calls(self):
        for call in ("do d();", "do d(1);", "do d(1, 2, 3);"):
            self.refused("class c() { deed d(x, y) { } life { " + call + " } }", "WrongCount", "d", 2)
        self.right("class c() { deed d(x, y) { } life { do d(1, 2); } }")
        self.refused("class c() { life { do d(1); } deed d() { } }", "WrongCount", "d", 1)
        self.refused("class o() { deed d(x) { } } class c() within o { life { do d(); } }", "WrongCount", "d", 2)

    def test_made_classes(self):
        text = "class o(x, y) { } class c(z) within o { } "
        self.right(text + "start s = c(1, 2, 3);")
        self.right(text + "start s = o(1, 2); class u() { var v = 0; life { make v = c(1, 2, 3); } }")
        self.refused(text + "start s = c(1);", "WrongCount", "c", 2)
        self.refused(text + "start s = c(1, 2, 3, 4);", "WrongCount", "c", 2)
        self.refused(text + "start s = o();", "WrongCount", "o", 3)
        self.refused(text + "class u() { var v = 0; life { make v = c(); } }", "WrongCount", "c", 2)
        self.refused("start s = c(1); class c() { }", "WrongCount", "c", 1)

    def test_deeds_of_one_name(self):
        self.refused("class o() { deed d(x) { } } class c() within o { deed d() { } }", "WrongCount", "d", 2)
        self.refused("class c() within o { deed d() { } } class o() { deed d(x) { } }", "WrongCount", "d", 1)
        self.refused("class c() within m { deed d() { } } class m() within o { } class o() { deed d(x) { } }",
                     "WrongCount", "d", 1)
        self.right("class c() { deed d() { } } class o() { deed d(x) { } }")
        self.right("class o() { deed d(x) { } } class c() within o { deed d(y) { } }")

    def test_a_second_deed_in_its_own_class(self):
        self.refused("class c() { deed d() { } deed d(x) { } }", "WrongCount", "d", 1)
        self.refused("class c() { deed d(x) { } deed d(y) { } }", "DoubleName", "d", 2)

    def test_the_first_class_of_one_name_counts(self):
        self.refused("class c(x) { } start s = c(); class c() { }", "WrongCount", "c", 2)
        self.refused("class c(x) { } start s = c(1); class c() { }", "DoubleName", "c", 3)


class RingOfClassesTest(NamesCase):
    def test_rings(self):
        self.refused(classes("a:a"), "RingOfClasses", "a", 2)
        self.refused(classes("a:b", "b:a"), "RingOfClasses", "b", 1)
        self.refused(classes("a:b", "b:c", "c:a"), "RingOfClasses", "b", 1)

    def test_a_way_into_a_ring_is_not_the_fault(self):
        self.refused(classes("a:b", "b:c", "c:b"), "RingOfClasses", "c", 1)
        self.refused(classes("a:b", "b:b"), "RingOfClasses", "b", 3)

    def test_lines_are_no_rings(self):
        self.right(classes("a:b", "b:c", "c", "d:b", "e:c"))


class TooLargeTest(NamesCase):
    def test_chains_of_6_and_7_classes(self):
        six = ("a", "b:a", "c:b", "d:c", "e:d", "f:e")
        self.right(classes(*six))
        self.refused(classes(*six, "g:f"), "TooLarge", "g")
        self.refused(classes("g:f", *six), "TooLarge", "g")

    def test_a_ring_of_7_classes_is_too_large(self):
        self.refused(classes("a:b", "b:c", "c:d", "d:e", "e:f", "f:g", "g:a"), "TooLarge", "a")
        self.refused(classes("a:b", "b:c", "c:d", "d:e", "e:f", "f:a"), "RingOfClasses", "b")

    def test_lives_of_120_and_121_statements(self):
        self.right("class c() { life { " + "leave;" * 120 + " } }")
        self.refused("class c() { life { " + "leave;" * 121 + " } }", "TooLarge", "c")
        nested = "while 1 { if 1 { leave; } else { leave; } }"
        self.right("class c() { life { " + nested * 30 + " } }")
        self.refused("class c() { life { " + nested * 30 + " leave; } }", "TooLarge", "c")

    def test_deeds_of_120_and_121_statements(self):
        self.right("class c() { deed d() { " + "leave;" * 120 + " } deed e() { " + "leave;" * 120 + " } }")
        self.refused("class c() { deed d() { } deed e() { " + "leave;" * 121 + " } }", "TooLarge", "c")

    def test_flat_lives(self):
        outer = "class o() { life { " + "leave;" * 60 + " inner; } } "
        self.right(outer + "class c() within o { life { " + "leave;" * 60 + " } }")
        self.right(outer + "class c() within o { life { inner; " + "leave;" * 60 + " } }")
        self.refused(outer + "class c() within o { life { " + "leave;" * 61 + " } }", "TooLarge", "c")

    def test_deeds_of_outer_classes_do_not_count_again(self):
        self.refused("class c() within o { } class o() { deed d() { " + "leave;" * 121 + " } }", "TooLarge", "o", 2)

    def test_blocks_that_are_too_deep(self):
        def within(times, inside):
            return "while 1 { " * times + inside + " }" * times

        outer = "class o() { life { " + within(4, "inner;") + " } } "
        self.right(outer + "class c() within o { life { " + within(3, "leave;") + " } }")
        self.refused(outer + "class c() within o { life { " + within(4, "leave;") + " } }", "TooLarge", "c")
        self.right(outer + "class c() within o { life { " + within(2, "inner;") + " } } "
                   + "class d() within c { life { " + within(1, "leave;") + " } }")
        self.refused(outer + "class c() within o { life { " + within(3, "inner;") + " } } "
                     + "class d() within c { life { " + within(1, "leave;") + " } }", "TooLarge", "d")


class OrderTest(NamesCase):
    def test_the_first_row_that_breaks_a_rule(self):
        self.refused("class c(c) { life { hold zz; } }", "DoubleName", "c", 2)
        self.refused("class c() { life { hold zz; } } cell c = 0;", "UnknownName", "zz")
        self.refused("class c() { life { hold zz; do d(); } deed d(x, x) { } }", "UnknownName", "zz")
        self.refused("class c() { life { do d(); hold zz; } deed d(x, x) { } }", "WrongCount", "d", 1)
        self.refused("class a() within b { var x = 0; life { hold zz; } } class b() within a { }", "RingOfClasses", "b", 1)
        self.refused("class a(x) within b { } class b() within a { var x = 0; }", "DoubleName", "x", 1)

    def test_the_first_rule_that_a_row_breaks(self):
        large = "life { " + "leave;" * 121 + " }"
        self.refused("cell c = 0; class c() { " + large + " }", "DoubleName", "c", 2)
        self.refused("class c() within c { " + large + " }", "TooLarge", "c", 1)
        self.refused("cell x = 0; class c() { deed x() { } deed x(y) { } }", "DoubleName", "x", 2)
        self.refused("class o(d) { } class c() within o { deed d() { } deed d(x) { } }", "DoubleName", "d", 2)

    def test_rows_and_columns(self):
        self.assertEqual(check("class c() {\n  life {\n    hold\n zz; } }"), ("UnknownName", "zz", 4, 2))

    def test_right_names_return_none(self):
        text = ITEMS + "start z = k();"
        self.assertIsNone(check_names(name_rows(text), read_tree(text)))
        self.assertIsNone(check_names([], ()))

    def test_rows_are_not_modified(self):
        rows = name_rows(ITEMS)
        kept = list(rows)
        check_names(rows, read_tree(ITEMS))
        chain_of(rows, "k").append("x")
        visible(rows, "ce", "k", "")
        self.assertEqual(rows, kept)
        self.assertEqual(chain_of(rows, "k"), ["k"])


class BoundsTest(NamesCase):
    def test_many_rows(self):
        deeds = "".join([f"deed d{at}(x) {{ " + "set a = x + a + x + a;" * 20 + " } " for at in range(9)])
        self.right("cell a = 0; class c() { " + deeds + "}")

    def test_a_chain_of_12_classes_is_refused_and_no_more(self):
        words = ["a1"] + [f"a{at}:a{at - 1}" for at in range(2, 13)]
        self.refused(classes(*words), "TooLarge", "a7", 1)


if __name__ == "__main__":
    unittest.main()
