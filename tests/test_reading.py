import random
import unittest

from tests.grammar import GRAMMAR, first_refused
from tests.texts import deed_text, life_text, nested, refusal
from wokenlives.reading import ending, name_rows, read_tree
from wokenlives.tokens import token_list
from wokenlives.writing import write_tree


def block_of(body):
    """The block of a life with this body."""
    return read_tree(life_text(body))[0][4][0][1]


def statement(text):
    found = block_of(text)
    assert len(found) == 1
    return found[0]


def expression(text):
    return statement(f"hold {text};")[1]


class ItemsTest(unittest.TestCase):
    def test_the_empty_text(self):
        self.assertEqual(read_tree(""), ())
        self.assertEqual(read_tree(" # nothing\n"), ())

    def test_things(self):
        self.assertEqual(read_tree("cell a = 3; cell b = -4; cell z = -0;"),
                         (("cell", "a", 3), ("cell", "b", -4), ("cell", "z", 0)))
        self.assertEqual(read_tree("line q; store s = 12; gate g open; gate h shut; wheel w = 2; mark m = - 1;"), (
            ("line", "q"), ("store", "s", 12), ("gate", "g", "open"), ("gate", "h", "shut"), ("wheel", "w", 2),
            ("mark", "m", -1),
        ))

    def test_starts(self):
        self.assertEqual(read_tree("start a = c(); start b = c(1, -2) at 7; start d = c(0) asleep; start e = c() at 0;"), (
            ("start", "a", "c", (), 0), ("start", "b", "c", (1, -2), 7), ("start", "d", "c", (0,), None),
            ("start", "e", "c", (), 0),
        ))

    def test_classes(self):
        self.assertEqual(read_tree("class a() { } class b(x, y) within a { life { } var v = -2; deed d(p, q) { } var w = 1; }"), (
            ("class", "a", (), None, ()),
            ("class", "b", ("x", "y"), "a", (
                ("life", ()), ("var", "v", -2), ("deed", "d", ("p", "q"), ()), ("var", "w", 1),
            )),
        ))

    def test_one_life_at_most(self):
        text = "class a() { life { } life { } }"
        self.assertEqual(refusal(read_tree, text), ("BadForm", 1, 22))
        self.assertIsNone(refusal(read_tree, "class a() { life { } } class b() { life { } }"))

    def test_sizes_are_not_0(self):
        self.assertEqual(refusal(read_tree, "store s = 0;"), ("BadForm", 1, 11))
        self.assertEqual(refusal(read_tree, "wheel s = 0;"), ("BadForm", 1, 11))
        self.assertEqual(refusal(read_tree, "store s = -1;"), ("BadForm", 1, 11))


class StatementsTest(unittest.TestCase):
    def test_each_form(self):
        one = ("number", 1)
        two = ("number", 2)
        forms = (
            ("set x = 1;", ("set", ("name", "x"), one)),
            ("set x.m = 1;", ("set", ("mark", ("name", "x"), "m"), one)),
            ("set me.m = 1;", ("set", ("mark", ("me",), "m"), one)),
            ("tell w();", ("tell", "w", ())),
            ("tell w(1, 2);", ("tell", "w", (one, two))),
            ("if 1 { leave; }", ("if", one, (("leave",),), ())),
            ("if 1 { leave; } else { sleep; }", ("if", one, (("leave",),), (("sleep",),))),
            ("if 1 { } else { }", ("if", one, (), ())),
            ("while 1 { leave; }", ("while", one, (("leave",),))),
            ("do d();", ("do", "d", ())),
            ("do d(1, 2);", ("do", "d", (one, two))),
            ("inner;", ("inner",)),
            ("hold 1;", ("hold", one)),
            ("sleep;", ("sleep",)),
            ("wake 1;", ("wake", one, None)),
            ("wake 1 after 2;", ("wake", one, two)),
            ("stop 1;", ("stop", one)),
            ("seize 1 of s;", ("seize", "s", one)),
            ("free 1 of s;", ("free", "s", one)),
            ("wait g;", ("wait", "g")),
            ("open g;", ("open", "g")),
            ("shut g;", ("shut", "g")),
            ("put 1 into q;", ("put", "q", one)),
            ("take x from q;", ("take", ("name", "x"), "q")),
            ("take me.m from q;", ("take", ("mark", ("me",), "m"), "q")),
            ("make x = c();", ("make", ("name", "x"), "c", ())),
            ("make x.m = c(1, 2);", ("make", ("mark", ("name", "x"), "m"), "c", (one, two))),
            ("leave;", ("leave",)),
        )
        for text, tree in forms:
            self.assertEqual(statement(text), tree, text)

    def test_inner_only_once_and_only_in_lives(self):
        self.assertEqual(refusal(read_tree, life_text("inner; if 1 { inner; }")), ("BadForm", 1, 34))
        self.assertEqual(refusal(read_tree, deed_text("inner;")), ("BadForm", 1, 24))
        both = "class a() { life { inner; } deed d() { } } class b() { life { inner; } }"
        self.assertIsNone(refusal(read_tree, both))
        behind_life = "class a() { life { } deed d() { inner; } }"
        self.assertEqual(refusal(read_tree, behind_life), ("BadForm", 1, 33))

    def test_blocks_of_depth_8_and_9(self):
        for wrap in (life_text, deed_text):
            self.assertIsNone(refusal(read_tree, wrap(nested(8, "leave;"))))
            text = wrap(nested(8, "while 1 { }"))
            self.assertEqual(refusal(read_tree, text), ("TooDeep", 1, text.rindex("while") + 1))
            text = wrap(nested(8, "leave; if 1 { }"))
            self.assertEqual(refusal(read_tree, text), ("TooDeep", 1, text.index("if 1") + 1))

    def test_depth_is_counted_anew_behind_blocks(self):
        self.assertIsNone(refusal(read_tree, life_text(nested(8, "") + nested(8, ""))))
        other = "if 1 { } else { " + nested(7, "leave;") + " }"
        self.assertIsNone(refusal(read_tree, life_text(other)))
        text = life_text("if 1 { } else { " + nested(7, "if 1 { }") + " }")
        self.assertEqual(refusal(read_tree, text), ("TooDeep", 1, text.rindex("if 1") + 1))

    def test_wrong_forms(self):
        for body, column in (
            ("set 1 = 2;", 24), ("set me = 2;", 27), ("tell w;", 26), ("tell w(1,);", 29), ("tell w(,);", 27),
            ("if { }", 23), ("if 1 leave;", 25), ("else { }", 20), ("if 1 { } else if 2 { }", 34),
            ("leave", 26), ("put 1 of q;", 26), ("take 1 from q;", 25), ("take me from q;", 28),
            ("seize 1 from s;", 28), ("wake 1 after;", 32), ("make x = c;", 30), ("open 1;", 25), ("life { }", 20),
            ("if 1 { } else { } else { }", 38), ("wait me;", 25), ("do me();", 23), ("set x.me = 1;", 26),
        ):
            self.assertEqual(refusal(read_tree, life_text(body)), ("BadForm", 1, column), body)


class ExpressionsTest(unittest.TestCase):
    def test_primaries(self):
        for text, tree in (
            ("0", ("number", 0)), ("999999999", ("number", 999999999)), ("none", ("none",)), ("now", ("now",)),
            ("me", ("me",)), ("me.m", ("mark", ("me",), "m")), ("x", ("name", "x")),
            ("x.m", ("mark", ("name", "x"), "m")), ("(x)", ("name", "x")), ("((1))", ("number", 1)),
            ("length(q)", ("length", "q")), ("first(q)", ("first", "q")), ("spare(s)", ("spare", "s")),
            ("waiting(s)", ("waiting", "s")), ("isopen(g)", ("isopen", "g")), ("stand(x)", ("stand", ("name", "x"))),
            ("stand(x or y)", ("stand", ("or", ("name", "x"), ("name", "y")))),
            ("-1", ("neg", ("number", 1))), ("--x", ("neg", ("neg", ("name", "x")))),
            ("not not 1", ("not", ("not", ("number", 1)))),
        ):
            self.assertEqual(expression(text), tree, text)

    def test_operators_of_two_sides(self):
        for sign in "or and == != < <= > >= + - * / mod".split():
            self.assertEqual(expression(f"a {sign} b"), (sign, ("name", "a"), ("name", "b")))

    def test_to_the_left(self):
        for sign in "or and + - * / mod".split():
            inside = (sign, ("name", "a"), ("name", "b"))
            self.assertEqual(expression(f"a {sign} b {sign} c"), (sign, inside, ("name", "c")))

    def test_ranks(self):
        for text, same in (
            ("a or b and c", "a or (b and c)"), ("a and b or c", "(a and b) or c"),
            ("not a and b", "(not a) and b"), ("a and not b or c", "(a and (not b)) or c"),
            ("not a == b", "not (a == b)"), ("a + b < c - d", "(a + b) < (c - d)"),
            ("a + b * c - d", "(a + (b * c)) - d"), ("-a * b", "(-a) * b"), ("a - -b", "a - (-b)"),
            ("a mod b / c * d", "((a mod b) / c) * d"), ("not a + b", "not (a + b)"),
            ("a == b and c == d", "(a == b) and (c == d)"), ("a or b == c + d", "a or (b == (c + d))"),
        ):
            self.assertEqual(expression(text), expression(same), text)

    def test_all_comparisons_have_one_rank(self):
        for sign in "== != < <= > >=".split():
            self.assertEqual(expression(f"not a + b {sign} c - d"), expression(f"not ((a + b) {sign} (c - d))"))
            self.assertEqual(expression(f"a {sign} b and c {sign} d"), expression(f"(a {sign} b) and (c {sign} d)"))
            for other in "== != < <= > >=".split():
                text = life_text(f"hold a {sign} b {other} c;")
                self.assertEqual(refusal(read_tree, text), ("BadForm", 1, 30 + len(sign)))

    def test_wrong_forms(self):
        for text, column in (
            ("a == b == c", 32), ("a < b + c >= d", 35), ("not a == b != c", 36), ("a + not b", 29), ("- not a", 27),
            ("a == not b", 30), ("a b", 27), ("()", 26), ("(a", 27), ("a +", 28), ("length(1)", 32), ("stand a", 31),
            ("stand()", 31), ("a.1", 27), ("1.m", 26), ("none.m", 29), ("me.me", 28), ("length(a.b)", 33), ("*a", 25),
            ("a or", 29), ("first", 30), ("(a == b) == c == d", 39),
        ):
            self.assertEqual(refusal(read_tree, life_text(f"hold {text};")), ("BadForm", 1, column), text)

    def test_24_and_25_marks_of_weight(self):
        many = (
            ("-", "1", ""), ("not ", "1", ""), ("(", "1", ")"), ("stand(", "1", ")"),
            ("1 + ", "1", ""), ("1 or ", "1", ""), ("1 mod ", "1", ""), ("1 and not ", "1", ""), ("-(", "1", ")"),
        )
        for front, middle, back in many:
            weight = 2 if front in ("-(", "1 and not ") else 1
            times = 24 // weight
            self.assertIsNone(refusal(read_tree, life_text("hold " + front * times + middle + back * times + ";")))
            start = "hold " + front * times
            column = len("class c() { life { ") + len(start) + 1
            if front[0] == "1":
                column += 2
            text = life_text(start + front + middle + back * (times + 1) + ";")
            self.assertEqual(refusal(read_tree, text), ("TooDeep", 1, column), text)

    def test_a_comparison_weighs_too(self):
        body = "hold 1 == 2 + " + "-" * 22 + "1{};"
        self.assertIsNone(refusal(read_tree, life_text(body.replace("{}", ""))))
        text = life_text(body.replace("{}", " * 2"))
        self.assertEqual(refusal(read_tree, text), ("TooDeep", 1, text.index("*") + 1))

    def test_grammar_speaks_before_weight(self):
        full = "-" * 24
        for tail, name in (("1 == 2", "TooDeep"), ("not 1", "BadForm"), ("1 not", "BadForm"), ("1 A", "BadSign"),
                           ("(1)", "TooDeep"), ("1 (", "BadForm"), ("stand(1)", "TooDeep"), ("length(q)", None)):
            found = refusal(read_tree, life_text(f"hold {full}{tail};"))
            self.assertEqual(None if found is None else found[0], name, tail)
        compared = "1 < 2 + " + "-" * 22 + "3 < 4"
        self.assertEqual(refusal(read_tree, life_text(f"hold {compared};"))[0], "BadForm")

    def test_weight_is_counted_for_each_whole_expression(self):
        full = "-" * 24 + "1"
        self.assertIsNone(refusal(read_tree, life_text(f"tell w({full}, {full}); wake {full} after {full};")))
        self.assertIsNone(refusal(read_tree, life_text(f"if {full} {{ hold {full}; }}")))

    def test_calls_and_signed_numbers_weigh_nothing(self):
        full = "-" * 23 + "1"
        self.assertIsNone(refusal(read_tree, life_text(f"tell w({full} + length(q));")))
        self.assertIsNone(refusal(read_tree, "start a = c(" + ", ".join(["-1"] * 9) + ");"))


class RefusalTest(unittest.TestCase):
    def test_bad_signs(self):
        self.assertEqual(refusal(read_tree, "cell A = 1;"), ("BadSign", 1, 6))
        self.assertEqual(refusal(read_tree, "cell a = 01;"), ("BadSign", 1, 10))
        self.assertEqual(refusal(read_tree, "cell a\n = 1;\n\tline b;"), ("BadSign", 3, 1))
        self.assertEqual(refusal(read_tree, "cell abcdefghijklm = 1;"), ("BadSign", 1, 6))

    def test_the_first_refused_token_counts(self):
        self.assertEqual(refusal(read_tree, "cell cell A"), ("BadForm", 1, 6))
        self.assertEqual(refusal(read_tree, "cell A cell"), ("BadSign", 1, 6))

    def test_the_end_is_refused(self):
        self.assertEqual(refusal(read_tree, "cell a = 1"), ("BadForm", 1, 11))
        self.assertEqual(refusal(read_tree, "cell a = 1\n# x"), ("BadForm", 2, 4))
        self.assertEqual(refusal(read_tree, "class a() {"), ("BadForm", 1, 12))

    def test_items(self):
        for text, column in (
            ("a", 1), ("cell", 5), ("cell 1", 6), ("cell a 1", 8), ("cell a = b;", 10), ("cell a = --1;", 11),
            ("line q = 1;", 8), ("gate g;", 7), ("gate g open shut;", 13), ("start a = c;", 12), ("start a = c(b);", 13),
            ("start a = c() at -1;", 18), ("start a = c() at;", 17), ("start a = c() asleep at 1;", 22),
            ("class a { }", 9), ("class a(1) { }", 9), ("class a(b,) { }", 11), ("class a() within { }", 18),
            ("class a() { set x = 1; }", 13), ("class a() { life() { } }", 17), ("class a() { deed d { } }", 20),
            ("class a() { var v; }", 18), ("class a() { };", 14), ("}", 1), (";", 1), ("var a = 1;", 1),
        ):
            self.assertEqual(refusal(read_tree, text), ("BadForm", 1, column), text)

    def test_all_three_refuse_alike(self):
        for text in ("cell A", "cell cell", "store s = 0;", "class a() { life { hold " + "-" * 25 + "1",
                     life_text(nested(8, "if 1 { }")), life_text("inner; inner;"), "cell a = 1; line q; !"):
            wanted = refusal(read_tree, text)
            self.assertIsNotNone(wanted)
            self.assertEqual(refusal(ending, text), wanted, text)
            self.assertEqual(refusal(name_rows, text), wanted, text)


class EndingTest(unittest.TestCase):
    def check(self, text, wanted):
        self.assertEqual(ending(text), wanted, text)
        self.assertIsNone(refusal(read_tree, text + "\n" + wanted))

    def test_items(self):
        for text, wanted in (
            ("", ""), ("cell a = 1;", ""), ("cell", "a = 0 ;"), ("cell a", "= 0 ;"), ("cell a =", "0 ;"),
            ("cell a = -", "0 ;"), ("cell a = 4", ";"), ("line", "a ;"), ("store", "a = 1 ;"), ("store s =", "1 ;"),
            ("wheel", "a = 1 ;"), ("gate", "a open ;"), ("gate g", "open ;"), ("gate g shut", ";"),
            ("mark", "a = 0 ;"), ("class", "a ( ) { }"), ("class a (", ") { }"), ("class a ( b", ") { }"),
            ("class a ( b ,", "a ) { }"), ("class a ( )", "{ }"), ("class a ( ) within", "a { }"),
            ("class a ( ) {", "}"), ("class a ( ) { }", ""), ("start", "a = a ( ) ;"), ("start b = c (", ") ;"),
            ("start b = c ( 1", ") ;"), ("start b = c ( 1 ,", "0 ) ;"), ("start b = c ( -", "0 ) ;"),
            ("start b = c ( )", ";"), ("start b = c ( ) at", "0 ;"), ("start b = c ( ) asleep", ";"),
            ("cell a # the comment ends with the text", "= 0 ;"),
        ):
            self.check(text, wanted)

    def test_members(self):
        for text, wanted in (
            ("var", "a = 0 ; }"), ("var v = -", "0 ; }"), ("deed", "a ( ) { } }"), ("deed d ( p", ") { } }"),
            ("deed d ( p ,", "a ) { } }"), ("life", "{ } }"), ("life {", "} }"), ("life { }", "}"),
        ):
            self.check("class a ( ) { " + text, wanted)

    def test_statements(self):
        for text, wanted in (
            ("set", "a = 0 ;"), ("set me", ". a = 0 ;"), ("set x", "= 0 ;"), ("set x .", "a = 0 ;"), ("set x . m", "= 0 ;"),
            ("tell", "a ( ) ;"), ("tell w", "( ) ;"), ("tell w (", ") ;"), ("tell w ( 1", ") ;"),
            ("tell w ( 1 ,", "0 ) ;"), ("if", "0 { }"), ("if 1", "{ }"), ("if 1 {", "}"), ("if 1 { }", ""),
            ("if 1 { } else", "{ }"), ("while", "0 { }"), ("do", "a ( ) ;"), ("inner", ";"), ("hold", "0 ;"),
            ("sleep", ";"), ("wake", "0 ;"), ("wake 1", ";"), ("wake 1 after", "0 ;"), ("stop", "0 ;"),
            ("seize", "0 of a ;"), ("seize 1", "of a ;"), ("free", "0 of a ;"), ("free 1 of", "a ;"), ("wait", "a ;"),
            ("open", "a ;"), ("shut", "a ;"), ("put", "0 into a ;"), ("put 1", "into a ;"), ("take", "a from a ;"),
            ("take me", ". a from a ;"), ("take x", "from a ;"), ("make", "a = a ( ) ;"), ("make x = c", "( ) ;"),
            ("make x = c ( 1 +", "0 ) ;"), ("leave", ";"), ("leave ;", ""),
        ):
            self.check("class a ( ) { life { " + text, (wanted + " } }").strip())

    def test_expressions(self):
        for text, wanted in (
            ("-", "0 ;"), ("not", "0 ;"), ("1 +", "0 ;"), ("1 or", "0 ;"), ("1 ==", "0 ;"), ("(", "0 ) ;"),
            ("( ( 1", ") ) ;"), ("stand", "( 0 ) ;"), ("stand (", "0 ) ;"), ("length", "( a ) ;"), ("first (", "a ) ;"),
            ("isopen ( g", ") ;"), ("me", ";"), ("me .", "a ;"), ("x .", "a ;"), ("x", ";"), ("none", ";"),
            ("- ( stand ( not", "0 ) ) ;"),
        ):
            self.check("class a ( ) { life { hold " + text, wanted + " } }")

    def test_at_full_weight_and_depth(self):
        self.check("class a ( ) { life { hold " + "- " * 24, "0 ; } }")
        self.check("class a ( ) { life { " + "while 1 { " * 7, "} " * 8 + "}")

    def test_each_beginning_of_a_text(self):
        text = "cell a = -1; class b(p) within c { life { if a or not p { set me.m = -(a + 1); inner; } else { " \
               "wake stand(x) after 2; } while 1 { take q.m from r; } } } start b = c(1, -2) at 3; gate g shut;"
        words = [token[1] for token in token_list(text)[:-1]]
        for many in range(len(words) + 1):
            part = " ".join(words[:many])
            self.assertIsNone(refusal(read_tree, part + "\n" + ending(part)), part)
            self.assertEqual(ending(part + "\n" + ending(part)), "")


class NameRowsTest(unittest.TestCase):
    def test_items(self):
        text = "cell a = 1; line b; store c = 1; gate d open;\nwheel e = 1; mark f = 1; start g = h(1, -2) at 1;"
        self.assertEqual(name_rows(text), [
            ("cell", "a", "", "", 0, 1, 6), ("line", "b", "", "", 0, 1, 18), ("store", "c", "", "", 0, 1, 27),
            ("gate", "d", "", "", 0, 1, 39), ("wheel", "e", "", "", 0, 2, 7), ("mark", "f", "", "", 0, 2, 19),
            ("start", "g", "", "", 0, 2, 32), ("made", "h", "", "", 2, 2, 36),
        ])
        self.assertEqual(name_rows(""), [])

    def test_classes(self):
        text = "class a(b, c) within d { var e = 1; deed f(g, h) { hold g; } life { hold e; } } cell i = 0;"
        self.assertEqual([row[:5] for row in name_rows(text)], [
            ("class", "a", "a", "", 2), ("param", "b", "a", "", 0), ("param", "c", "a", "", 0),
            ("outer", "d", "a", "", 0), ("var", "e", "a", "", 0), ("deed", "f", "a", "", 2),
            ("argument", "g", "a", "f", 0), ("argument", "h", "a", "f", 0), ("value", "g", "a", "f", 0),
            ("value", "e", "a", "", 0), ("cell", "i", "", "", 0),
        ])

    def test_using_roles(self):
        for body, wanted in (
            ("set a = b;", [("target", "a", 0), ("value", "b", 0)]),
            ("set a.b = c.d;", [("holder", "a", 0), ("field", "b", 0), ("holder", "c", 0), ("field", "d", 0)]),
            ("set me.b = me.d;", [("field", "b", 0), ("field", "d", 0)]),
            ("tell a(b, 1);", [("word", "a", 0), ("value", "b", 0)]),
            ("do a(b, 1, c);", [("call", "a", 3), ("value", "b", 0), ("value", "c", 0)]),
            ("make a = b(c, 1);", [("target", "a", 0), ("made", "b", 2), ("value", "c", 0)]),
            ("seize a of b;", [("value", "a", 0), ("stored", "b", 0)]),
            ("free a of b;", [("value", "a", 0), ("stored", "b", 0)]),
            ("wait a; open b; shut c;", [("gated", "a", 0), ("gated", "b", 0), ("gated", "c", 0)]),
            ("put a into b;", [("value", "a", 0), ("lined", "b", 0)]),
            ("take a from b;", [("target", "a", 0), ("source", "b", 0)]),
            ("take a.c from b;", [("holder", "a", 0), ("field", "c", 0), ("source", "b", 0)]),
            ("tell w(length(a), first(b), spare(c), waiting(d), isopen(e), stand(f));",
             [("word", "w", 0), ("lined", "a", 0), ("lined", "b", 0), ("stored", "c", 0), ("crowd", "d", 0),
              ("gated", "e", 0), ("value", "f", 0)]),
        ):
            for wrap, deed in ((life_text, ""), (deed_text, "d")):
                rows = name_rows(wrap(body))
                rows = rows[1:] if deed == "" else rows[2:]
                self.assertEqual([(row[0], row[1], row[4]) for row in rows], wanted, body)
                self.assertTrue(all(row[2:4] == ("c", deed) for row in rows))

    def test_places(self):
        text = "class c() {\n  life {\n    set x . y = -z;\n  }\n}"
        self.assertEqual([row[1:2] + row[5:] for row in name_rows(text)],
                         [("c", 1, 7), ("x", 3, 9), ("y", 3, 13), ("z", 3, 18)])


class AgainstTheGrammarTest(unittest.TestCase):
    """The reader against a recognizer that knows nothing but the grammar of point 8."""

    WORDS = ("{ } ( ) , ; . + - * / = == < >= a 0 7 if else while not and or mod me none stand first waiting set leave "
             "class start at asleep within deed var open shut gate ! A").split()

    def test_broken_texts(self):
        chance = random.Random(20)
        for _ in range(400):
            words = "class c ( ) { life {".split()
            for _ in range(chance.randint(1, 3)):
                words += self.words_of("statement", chance, chance.randint(8, 26))
            words += "} }".split() + self.words_of("program", chance, chance.randint(4, 26))
            for _ in range(chance.choice((0, 1, 1, 2))):
                at = chance.randrange(len(words) + 1)
                words[at:at + chance.randint(0, 1)] = [chance.choice(self.WORDS)]
            self.check(" ".join(words))

    def words_of(self, symbol, chance, left):
        if symbol not in GRAMMAR:
            return [{"NAME": "a", "NUMBER": "0", "SIZE": "3", '"life"': "deed d ( )", '"inner"': "leave"}
                    .get(symbol, symbol.strip('"'))]
        bodies = GRAMMAR[symbol]
        if left <= 0:
            # Groups end with the empty choice; a primary begins with a number.
            bodies = bodies[:1] if symbol == "primary" else bodies[-1:]
        words = []
        for part in chance.choice(bodies):
            words.extend(self.words_of(part, chance, left - 1))
        return words

    def check(self, text):
        tokens = token_list(text)
        refused = first_refused(tokens)
        found = refusal(read_tree, text)
        if found is not None and found[0] == "TooDeep":
            return
        if refused is None:
            self.assertIsNone(found, text)
            written = write_tree(read_tree(text))
            self.assertEqual(read_tree(written), read_tree(text))
        else:
            name = "BadSign" if tokens[refused][0] == "bad" else "BadForm"
            self.assertEqual(found, (name,) + tokens[refused][2:], text)


class BoundsTest(unittest.TestCase):
    def test_large_texts(self):
        body = "set x = -(a + 1); " * 320
        text = life_text(body)
        self.assertGreater(len(text), 5700)
        tree = read_tree(text)
        self.assertEqual(len(tree[0][4][0][1]), 320)
        self.assertEqual(len(name_rows(text)), 641)
        self.assertEqual(ending(text), "")

    def test_counts_beyond_the_bounds_are_no_errors(self):
        names = ", ".join([f"p{at}" for at in range(12)])
        text = f"class c({names}) {{ deed d({names}) {{ do d({names}); }} }}"
        self.assertEqual(len(read_tree(text)[0][2]), 12)
        items = "".join([f"cell c{at} = 0;" for at in range(40)])
        self.assertEqual(len(read_tree(items)), 40)


if __name__ == "__main__":
    unittest.main()
