"""Points 35 to 46; every happening is also made by the machine and by the oracle."""

import unittest

from tests.lives import AloneCase, END, MOMENT, NAME, RUN, class_k, fall, own_of
from tests.oracle import oracle_alone
from wokenlives.machine import run_alone
from wokenlives.programs import read_program
from wokenlives.reader import read_alone

LOOK = ("c", "look", ())


class BeginTest(AloneCase):
    def test_what_is_not_due(self):
        program = class_k("set c = 1;")
        for frames in ((("life", 0, ()),), (("life", 1, ()),), ()):
            own = own_of(frames, held=(("s", 1),), asked=("t", 1))
            for call in (read_alone, run_alone, oracle_alone):
                self.assertEqual(call(program, NAME, own, MOMENT, [0, 1, 1]), ([RUN], ("notdue",), own))

    def test_a_list_that_is_used_up(self):
        program = class_k("set c = 1; tell hi(c); set c = 2;")
        own = own_of()
        answers = [1, None, 7, 1, None, 1]
        whole = [RUN, ("c", "set", (1,)), LOOK, (NAME, "tell", ("hi", 7)), ("c", "set", (2,)), END]
        for many in range(6):
            for call in (read_alone, run_alone, oracle_alone):
                self.assertEqual(call(program, NAME, own, MOMENT, answers[:many]), (whole[:many + 1], ("open",), own))
        self.assertEqual(self.alone(program, own, answers[1:]), (whole[1:], ("end",), own_of(())))
        self.assertEqual(self.alone(program, own, answers[1:] + [4, 5]), (whole[1:], ("end",), own_of(())))

    def test_answers_are_used_up_inside_of_an_end(self):
        program = class_k("seize 2 of s; seize 1 of t;")
        own = own_of()
        answers = [1, 1, ("bob", "cat"), 1, 1, (), 1]
        askings = [("s", "seize", (2,)), ("t", "seize", (1,)), ("s", "free", (2,)), ("bob", "grant", MOMENT),
                   ("cat", "grant", MOMENT), ("t", "free", (1,)), END]
        for many in range(7):
            self.assertEqual(self.alone(program, own, answers[:many]), (askings[:many + 1], ("open",), own))
        self.assertEqual(self.alone(program, own, answers), (askings, ("end",), own_of(())))

    def test_an_empty_life_ends_at_once(self):
        self.assertEqual(self.first("", [1]), ([END], ("end",), own_of(())))
        self.assertEqual(self.first("leave;", [1]), ([END], ("end",), own_of(())))

    def test_a_life_that_is_over_ends_again(self):
        program = class_k("set c = 1;", "var v = 3;")
        over = own_of((), fields=(8,), made=4)
        self.assertEqual(self.alone(program, over, [1]), ([END], ("end",), over))

    def test_a_life_that_is_over_with_units_to_take_over(self):
        program = class_k("set c = 1;")
        over = own_of((), held=(("s", 1),), asked=("s", 2))
        self.assertEqual(self.alone(program, over, [("bob",), 1, 1]),
                         ([("s", "free", (3,)), ("bob", "grant", MOMENT), END], ("end",), own_of(())))
        over = own_of((), held=(("t", 1),), asked=("s", 2))
        self.assertEqual(self.alone(program, over, [(), (), 1])[0],
                         [("s", "free", (2,)), ("t", "free", (1,)), END])

    def test_units_are_taken_over(self):
        program = class_k("seize 1 of t; sleep; free 2 of s;")
        own = own_of((("life", 1, ()),), held=(("s", 2),), asked=("t", 1))
        self.assertEqual(self.alone(program, own, [1]),
                         ([(NAME, "sleep", ())], ("rest",), own_of((("life", 2, ()),), held=(("s", 2), ("t", 1)))))
        own = own_of((("life", 1, ()),), held=(("t", 2),), asked=("t", 1))
        self.assertEqual(self.alone(program, own, [1])[2], own_of((("life", 2, ()),), held=(("t", 3),)))

    def test_values_are_what_they_are(self):
        program = class_k("tell all(me, now, bob, none, 999999999, -999999999);")
        self.assertEqual(self.alone(program, own_of(), [1, 1])[0][0],
                         (NAME, "tell", ("all", NAME, 5, "bob", None, 999999999, -999999999)))
        self.assertEqual(self.alone(program, own_of(), [1, 1], "bob.1", (0, 17))[0][0],
                         ("bob.1", "tell", ("all", "bob.1", 0, "bob", None, 999999999, -999999999)))


class PlacesTest(AloneCase):
    TEXT = """
    sleep;
    while c { sleep; if c { sleep; } else { sleep; } }
    if c { while c { sleep; } } else { hold 1; if c { sleep; } else { } }
    sleep;
    """

    def goes_on(self, number, answers):
        """The askings of a life that stood at this statement, and where it stands then."""
        program = class_k(self.TEXT)
        askings, outcome, own = self.alone(program, own_of((("life", number, ()),)), answers)
        return askings, outcome, own[2][0][1] if own[2] else None

    def test_numbers(self):
        sleep = (NAME, "sleep", ())
        rest = ("rest",)
        self.assertEqual(self.goes_on(0, [1]), ([sleep], rest, 1))
        self.assertEqual(self.goes_on(1, [1, 1]), ([LOOK, sleep], rest, 3))
        self.assertEqual(self.goes_on(3, [1, 1]), ([LOOK, sleep], rest, 5))
        self.assertEqual(self.goes_on(3, [0, 1]), ([LOOK, sleep], rest, 6))
        self.assertEqual(self.goes_on(5, [1, 1]), ([LOOK, sleep], rest, 3))
        self.assertEqual(self.goes_on(6, [0, 1, 1, 1]), ([LOOK, LOOK, LOOK, sleep], rest, 9))
        self.assertEqual(self.goes_on(6, [0, 0, 1]), ([LOOK, LOOK, (NAME, "hold", (6, 0))], rest, 10))
        self.assertEqual(self.goes_on(9, [1, 1]), ([LOOK, sleep], rest, 9))
        self.assertEqual(self.goes_on(9, [0, 1]), ([LOOK, sleep], rest, 13))
        self.assertEqual(self.goes_on(10, [1, 1]), ([LOOK, sleep], rest, 12))
        self.assertEqual(self.goes_on(10, [0, 1]), ([LOOK, sleep], rest, 13))
        self.assertEqual(self.goes_on(12, [1]), ([sleep], rest, 13))
        self.assertEqual(self.goes_on(13, [1]), ([END], ("end",), None))

    def test_a_while_at_the_end_of_a_life(self):
        program = class_k("while c { if c { sleep; } }")
        own = own_of((("life", 3, ()),))
        self.assertEqual(self.alone(program, own, [1, 0, 1, 1, 1]),
                         ([LOOK, LOOK, LOOK, LOOK, (NAME, "sleep", ())], ("rest",), own))
        self.assertEqual(self.alone(program, own, [0, 1]), ([LOOK, END], ("end",), own_of(())))

    def test_empty_blocks(self):
        self.assertEqual(self.first("if c { } else { } if c { } tell hi();", [1, 1, 1, 1])[0],
                         [LOOK, LOOK, (NAME, "tell", ("hi",)), END])
        self.assertEqual(self.first("while c { } tell hi();", [1, 1, 0, 1, 1])[0],
                         [LOOK, LOOK, LOOK, (NAME, "tell", ("hi",)), END])

    def test_leave_out_of_nested_blocks(self):
        body = "while c { if c { while 1 { leave; } } } set c = 2;"
        self.assertEqual(self.first(body, [1, 1, 1]), ([LOOK, LOOK, END], ("end",), own_of(())))
        members = "deed d() { " + body + " }"
        self.assertEqual(self.first("do d(); set c = 3;", [1, 1, None, 1], members)[0],
                         [LOOK, LOOK, ("c", "set", (3,)), END])


class FramesTest(AloneCase):
    MEMBERS = "var v = 1; deed d(a, b) { set a = a + 1; tell d(a, b, v); sleep; set v = b; } deed e() { do d(v, me); }"

    def test_a_deed_with_arguments(self):
        askings, outcome, own = self.first("do d(4, v); tell bye(v);", [1, 1], self.MEMBERS)
        self.assertEqual(askings, [(NAME, "tell", ("d", 5, 1, 1)), (NAME, "sleep", ())])
        self.assertEqual(own, own_of((("life", 1, ()), ("d", 3, (5, 1))), fields=(1,)))

    def test_ends_of_several_frames_at_once(self):
        program = class_k("do e(); tell bye(v);", self.MEMBERS)
        own = own_of((("life", 1, ()), ("e", 1, ()), ("d", 3, (2, NAME))), fields=(1,))
        self.assertEqual(self.alone(program, own, [1, 1]),
                         ([(NAME, "tell", ("bye", NAME)), END], ("end",), own_of((), fields=(NAME,))))

    def test_frames_end_in_blocks(self):
        members = "deed d() { if c { do e(); } } deed e() { sleep; }"
        program = class_k("while c { do d(); }", members)
        own = own_of((("life", 2, ()), ("d", 2, ()), ("e", 1, ())))
        self.assertEqual(self.alone(program, own, [1, 1, 1]), ([LOOK, LOOK, (NAME, "sleep", ())], ("rest",), own))
        self.assertEqual(self.alone(program, own, [1, 0, 0, 1]), ([LOOK, LOOK, LOOK, END], ("end",), own_of(())))

    def test_leave_in_a_deed_and_in_a_life(self):
        members = "deed d() { leave; set c = 1; }"
        self.assertEqual(self.first("do d(); set c = 2; leave; set c = 3;", [None, 1], members)[0],
                         [("c", "set", (2,)), END])

    def test_an_empty_deed(self):
        self.assertEqual(self.first("do d(); set c = 2;", [None, 1], "deed d() { }")[0], [("c", "set", (2,)), END])

    def test_arguments_hide_nothing_of_other_frames(self):
        members = "deed d(a) { do e(a + 1); tell d(a); } deed e(a) { set a = a * 2; tell e(a); }"
        self.assertEqual(self.first("do d(3);", [1, 1, 1], members)[0],
                         [(NAME, "tell", ("e", 8)), (NAME, "tell", ("d", 3)), END])

    def test_arguments_of_an_outer_deed_come_before_fields(self):
        text = """class a() { deed d(x) { set x = x + 1; tell d(x); } }
        class k(x) within a { life { do d(x * 10); tell k(x); } }"""
        program = read_program(text)
        self.assertEqual(self.alone(program, ("k", (2,), (("life", 0, ()),), (), None, 0), [1, 1, 1]),
                         ([(NAME, "tell", ("d", 21)), (NAME, "tell", ("k", 2)), END], ("end",), ("k", (2,), (), (), None, 0)))

    def test_deeds_of_the_innermost_class(self):
        text = """class a() { deed d() { tell a(); } life { do d(); inner; do d(); } }
        class k() within a { deed d() { tell k(); } life { tell mid(); } }"""
        program = read_program(text)
        self.assertEqual(self.alone(program, own_of(), [1, 1, 1, 1])[0],
                         [(NAME, "tell", ("k",)), (NAME, "tell", ("mid",)), (NAME, "tell", ("k",)), END])
        other = ("a",) + own_of()[1:]
        self.assertEqual(self.alone(program, other, [1, 1, 1])[0], [(NAME, "tell", ("a",)), (NAME, "tell", ("a",)), END])

    def test_8_frames_and_one_more(self):
        members = "var v = 0; deed d() { set v = v + 1; if v < c { do d(); } sleep; }"
        askings, outcome, own = self.first("do d();", [7, 7, 7, 7, 7, 7, 7, 1], members)
        self.assertEqual(outcome, ("rest",))
        self.assertEqual(own[2], (("life", 1, ()),) + (("d", 3, ()),) * 6 + (("d", 4, ()),))
        askings, fault = self.fault("do d();", [8] * 7, members)
        self.assertEqual((askings, fault), ([LOOK] * 7, "deep"))

    def test_expressions_come_before_deep(self):
        members = "deed d(a) { do d(c); }"
        self.assertEqual(self.fault("do d(0);", [3] * 7, members), ([LOOK] * 7, "deep"))
        members = "deed d(a) { do d(c + none); }"
        self.assertEqual(self.fault("do d(0);", [3], members), ([LOOK], "kind"))

    def test_more_than_8_frames(self):
        program = class_k("do d();", "deed d() { do d(); sleep; do d(); }")
        own = own_of((("life", 1, ()),) + (("d", 1, ()),) * 8 + (("d", 2, ()),))
        self.assertEqual(self.alone(program, own, [1])[1], ("fall", "deep"))


class CountTest(AloneCase):
    def test_60_statements_and_one_more(self):
        rows = "set v = v + 1; "
        askings, outcome, own = self.first(rows * 60, [1], "var v = 0;")
        self.assertEqual((askings, outcome, own[1]), ([END], ("end",), (60,)))
        askings, outcome, own = self.first(rows * 61, [1], "var v = 0;")
        self.assertEqual((askings, outcome, own[1]), ([fall("spent")], ("fall", "spent"), (60,)))

    def test_the_61st_statement_asks_nothing(self):
        rows = "set v = v + 1; " * 60
        self.assertEqual(self.fault(rows + "set c = c;", (), "var v = 0;"), ([], "spent"))
        self.assertEqual(self.fault(rows + "while c { }", (), "var v = 0;"), ([], "spent"))
        self.assertEqual(self.fault(rows + "sleep;", (), "var v = 0;"), ([], "spent"))
        self.assertEqual(self.fault(rows + "leave;", (), "var v = 0;"), ([], "spent"))

    def test_tests_of_a_while(self):
        self.assertEqual(self.fault("while c { }", [1] * 60), ([LOOK] * 60, "spent"))
        askings, outcome, _ = self.first("while c { }", [1] * 59 + [0, 1])
        self.assertEqual((askings, outcome), ([LOOK] * 60 + [END], ("end",)))

    def test_a_while_with_a_statement(self):
        askings, outcome, own = self.first("while 1 { set v = v + 1; }", [1], "var v = 0;")
        self.assertEqual((outcome, own[1]), (("fall", "spent"), (30,)))
        askings, outcome, own = self.first("set v = 1; while 1 { set v = v + 1; }", [1], "var v = 0;")
        self.assertEqual((outcome, own[1]), (("fall", "spent"), (30,)))

    def test_ifs_and_deeds_count_as_statements(self):
        rows = "if 1 { set v = v + 1; } "
        self.assertEqual(self.first(rows * 30, [1], "var v = 0;")[1], ("end",))
        self.assertEqual(self.first(rows * 30 + "leave;", [1], "var v = 0;")[1], ("fall", "spent"))
        members = "var v = 0; deed d() { set v = v + 1; }"
        self.assertEqual(self.first("do d(); " * 30, [1], members)[1], ("end",))
        self.assertEqual(self.first("do d(); " * 30 + "leave;", [1], members)[1], ("fall", "spent"))

    def test_each_happening_counts_from_0(self):
        program = class_k("set v = v + 1; " * 59 + "sleep; " + "set v = v + 1; " * 60, "var v = 0;")
        _, outcome, own = self.alone(program, own_of(fields=(0,)), [1])
        self.assertEqual((outcome, own[1], own[2]), (("rest",), (59,), (("life", 60, ()),)))
        _, outcome, own = self.alone(program, own, [1])
        self.assertEqual((outcome, own[1]), (("end",), (119,)))

    def test_the_test_behind_a_rest_counts(self):
        program = class_k("while c { sleep; } " + "set v = 1; " * 60, "var v = 0;")
        own = own_of((("life", 2, ()),), fields=(0,))
        self.assertEqual(self.alone(program, own, [0, 1])[1], ("fall", "spent"))
        program = class_k("while c { sleep; } " + "set v = 1; " * 59, "var v = 0;")
        self.assertEqual(self.alone(program, own, [0, 1])[1], ("end",))

    def test_spent_comes_before_other_faults(self):
        self.assertEqual(self.fault("set v = 1; " * 60 + "hold none;", (), "var v = 0;"), ([], "spent"))
        self.assertEqual(self.fault("set v = 1; " * 59 + "hold none;", (), "var v = 0;"), ([], "kind"))


class ExpressionTest(AloneCase):
    def told(self, expr, answers=(), members="var v = 0;"):
        """The askings before an expression is told, and its value."""
        askings, outcome, _ = self.first(f"tell it({expr});", list(answers) + [1, 1], members)
        self.assertEqual(outcome, ("end",), expr)
        self.assertEqual(askings[-2][:2], (NAME, "tell"))
        return askings[:-2], askings[-2][2][1]

    def test_names(self):
        self.assertEqual(self.told("v"), ([], 0))
        self.assertEqual(self.told("c", ["bob.3"]), ([LOOK], "bob.3"))
        self.assertEqual(self.told("bob"), ([], "bob"))

    def test_marks(self):
        self.assertEqual(self.told("me.m", [4]), ([("ann:m", "look", ())], 4))
        self.assertEqual(self.told("bob.n", [None]), ([("bob:n", "look", ())], None))
        self.assertEqual(self.told("c.n", ["cat.1", 9]), ([LOOK, ("cat.1:n", "look", ())], 9))
        self.assertEqual(self.fault("tell it(v.n);", (), "var v = 0;"), ([], "nolife"))
        self.assertEqual(self.fault("tell it(c.n);", [None]), ([LOOK], "nolife"))

    def test_the_five_words(self):
        self.assertEqual(self.told("length(q)", [3]), ([("q", "length", ())], 3))
        self.assertEqual(self.told("first(q)", ["bob"]), ([("q", "first", ())], "bob"))
        self.assertEqual(self.told("spare(s)", [2]), ([("s", "spare", ())], 2))
        self.assertEqual(self.told("waiting(s)", [1]), ([("s", "waiting", ())], 1))
        self.assertEqual(self.told("waiting(g)", [1]), ([("g", "waiting", ())], 1))
        self.assertEqual(self.told("isopen(g)", [0]), ([("g", "isopen", ())], 0))

    def test_stand(self):
        self.assertEqual(self.told("stand(bob)", [6]), ([("bob", "stand", ())], 6))
        self.assertEqual(self.told("stand(c)", ["cat", 2]), ([LOOK, ("cat", "stand", ())], 2))
        self.assertEqual(self.told("stand(me)", [3]), ([(NAME, "stand", ())], 3))
        self.assertEqual(self.fault("tell it(stand(0));"), ([], "nolife"))
        self.assertEqual(self.fault("tell it(stand(none));"), ([], "nolife"))

    def test_neg_and_not(self):
        self.assertEqual(self.told("-c", [999999999]), ([LOOK], -999999999))
        self.assertEqual(self.told("-c", [-999999999]), ([LOOK], 999999999))
        self.assertEqual(self.fault("tell it(-none);"), ([], "kind"))
        self.assertEqual(self.fault("tell it(-me);"), ([], "kind"))
        self.assertEqual([self.told("not " + part)[1] for part in ("0", "1", "-1", "none", "me")], [1, 0, 0, 1, 0])

    def test_and_or_with_a_left_part_that_decides(self):
        for left, value in (("0", 0), ("none", 0)):
            self.assertEqual(self.told(f"{left} and c"), ([], value))
            self.assertEqual(self.told(f"{left} or c", [0]), ([LOOK], 0))
            self.assertEqual(self.told(f"{left} or c", ["bob"]), ([LOOK], 1))
        for left in ("1", "7", "-3", "me"):
            self.assertEqual(self.told(f"{left} or c"), ([], 1))
            self.assertEqual(self.told(f"{left} and c", [None]), ([LOOK], 0))
            self.assertEqual(self.told(f"{left} and c", [5]), ([LOOK], 1))

    def test_a_decided_part_brings_no_fault(self):
        self.assertEqual(self.told("0 and 1 / 0"), ([], 0))
        self.assertEqual(self.told("1 or -none"), ([], 1))
        self.assertEqual(self.fault("tell it(1 and 1 / 0);"), ([], "zero"))

    def test_chains_of_and_and_or(self):
        self.assertEqual(self.told("c and c or c and c", [1, 0, 1, 2]), ([LOOK] * 4, 1))
        self.assertEqual(self.told("c and c or c and c", [1, 3]), ([LOOK] * 2, 1))
        self.assertEqual(self.told("c and c or c and c", [0, 0]), ([LOOK] * 2, 0))
        self.assertEqual(self.told("(c or c) and not (c and c)", [0, 1, 0]), ([LOOK] * 3, 1))

    def test_operators(self):
        values = {"7 / 2": 3, "-7 / 2": -4, "7 / -2": -4, "-7 / -2": 3, "7 mod 2": 1, "-7 mod 2": 1, "7 mod -2": -1,
                  "-7 mod -2": -1, "2 < 3": 1, "3 <= 2": 0, "3 > 3": 0, "3 >= 3": 1, "none == 0": 0, "none == none": 1,
                  "me == ann": 1, "me == bob": 0, "me != 1": 1, "3 - 5": -2, "6 * -7": -42}
        for text, value in values.items():
            self.assertEqual(self.told(text), ([], value), text)

    def test_results_at_the_bounds_and_beyond(self):
        self.assertEqual(self.told("999999998 + 1"), ([], 999999999))
        self.assertEqual(self.fault("tell it(999999999 + 1);"), ([], "big"))
        self.assertEqual(self.told("-999999998 - 1"), ([], -999999999))
        self.assertEqual(self.fault("tell it(-999999999 - 1);"), ([], "big"))
        self.assertEqual(self.told("333333333 * 3"), ([], 999999999))
        self.assertEqual(self.fault("tell it(-1000 * 1000000);"), ([], "big"))
        self.assertEqual(self.told("-999999999 / -1"), ([], 999999999))
        # Of `mod` the result alone is bounded.
        self.assertEqual(self.told("-999999999 mod 999999998"), ([], 999999997))

    def test_faults_of_operators(self):
        for text, fault in (("none + 1", "kind"), ("1 < me", "kind"), ("none / 0", "kind"), ("1 / none", "kind"),
                            ("1 / 0", "zero"), ("1 mod 0", "zero"), ("me >= bob", "kind"), ("-none == 0", "kind")):
            self.assertEqual(self.fault(f"tell it({text});"), ([], fault), text)

    def test_parts_are_evaluated_from_left_to_right(self):
        askings = [LOOK, ("bob:m", "look", ()), ("q", "length", ()), ("s", "spare", ())]
        self.assertEqual(self.told("c + bob.m * length(q) - spare(s)", [1, 2, 3, 4]), (askings, 3))
        self.assertEqual(self.fault("tell it(c + length(q));", [None, 2]), ([LOOK, ("q", "length", ())], "kind"))
        self.assertEqual(self.fault("tell it(c.m + length(q));", [None]), ([LOOK], "nolife"))
        self.assertEqual(self.fault("tell it(1 / 0 + c, c);"), ([], "zero"))

    def test_lists_from_left_to_right(self):
        askings, _, _ = self.first("tell it(c, r, c);", [1, None, "bob", 1, 1])
        self.assertEqual(askings[:4], [LOOK, ("r", "look", ()), LOOK, (NAME, "tell", ("it", 1, None, "bob"))])


class StatementTest(AloneCase):
    def test_set_in_each_target(self):
        self.assertEqual(self.first("set v = c; set v = v + 1;", [4, 1], "var v = 0; var u = 3;")[2],
                         own_of((), fields=(5, 3)))
        self.assertEqual(self.first("set c = me;", [None, 1])[0][0], ("c", "set", (NAME,)))
        self.assertEqual(self.first("set me.m = none;", [None, 1])[0][0], ("ann:m", "set", (None,)))
        self.assertEqual(self.first("set bob.n = 1;", [None, 1])[0][0], ("bob:n", "set", (1,)))

    def test_a_holder_is_evaluated_behind_the_value(self):
        askings, _, _ = self.first("set r.m = c;", [3, "cat", None, 1])
        self.assertEqual(askings[:3], [LOOK, ("r", "look", ()), ("cat:m", "set", (3,))])
        self.assertEqual(self.fault("set r.m = c;", [3, 7]), ([LOOK, ("r", "look", ())], "nolife"))
        self.assertEqual(self.fault("set r.m = 1 / 0;"), ([], "zero"))

    def test_tell_answers_change_nothing(self):
        for answer in (0, 1):
            self.assertEqual(self.first("tell hi();", [answer, answer])[1], ("end",))

    def test_hold(self):
        program = class_k("hold v;", "var v = 0;")
        for value, moment in ((0, (5, 3)), (1, (6, 0)), (999999994, (999999999, 0))):
            own = own_of(fields=(value,))
            self.assertEqual(self.alone(program, own, [1]),
                             ([(NAME, "hold", moment)], ("rest",), own_of((("life", 1, ()),), fields=(value,))))
        for value, fault in ((-1, "early"), (-999999999, "early"), (999999995, "big"), (999999999, "big"),
                             (None, "kind"), ("bob", "kind")):
            self.assertEqual(self.alone(program, own_of(fields=(value,)), [1])[:2], ([fall(fault)], ("fall", fault)))
        self.assertEqual(self.alone(program, own_of(fields=(0,)), [1], NAME, (999999999, 10 ** 12))[0],
                         [(NAME, "hold", (999999999, 10 ** 12 + 1))])
        self.assertEqual(self.alone(program, own_of(fields=(1,)), [1], NAME, (999999999, 0))[1], ("fall", "big"))

    def test_rests_whatever_is_answered(self):
        for text in ("sleep;", "hold 0;"):
            self.assertEqual(self.first(text, [0])[1:], (("rest",), own_of((("life", 1, ()),))))

    def test_wake_and_stop(self):
        askings, _, _ = self.first("wake bob; wake bob after 0; wake bob after 3; stop bob; wake me; stop me;", [0] * 7)
        self.assertEqual(askings, [("bob", "wake", (5, 2)), ("bob", "wake", (5, 3)), ("bob", "wake", (8, 0)),
                                   ("bob", "stop", ()), (NAME, "wake", (5, 2)), (NAME, "stop", ()), END])

    def test_faults_of_wake_and_stop(self):
        for text, fault in (("wake 0;", "nolife"), ("wake none;", "nolife"), ("stop 1;", "nolife"),
                            ("wake 0 after none;", "nolife"), ("wake bob after none;", "kind"),
                            ("wake bob after me;", "kind"), ("wake bob after -1;", "early"),
                            ("wake bob after 999999999;", "big"), ("wake 0 after 1 / 0;", "zero")):
            self.assertEqual(self.fault(text), ([], fault), text)
        askings, _, _ = self.first("wake c after r;", ["bob", 1, 1, 1])
        self.assertEqual(askings[:3], [LOOK, ("r", "look", ()), ("bob", "wake", (6, 0))])
        self.assertEqual(self.fault("wake c after r;", [0, 1]), ([LOOK, ("r", "look", ())], "nolife"))

    def test_seize(self):
        askings, outcome, own = self.first("seize 1 of t; seize 3 of s; seize 1 of s; sleep;", [1, 1, 1, 1])
        self.assertEqual(askings, [("t", "seize", (1,)), ("s", "seize", (3,)), ("s", "seize", (1,)), (NAME, "sleep", ())])
        self.assertEqual(own, own_of((("life", 4, ()),), held=(("s", 4), ("t", 1))))
        askings, outcome, own = self.first("set v = 1; seize 2 of s; set v = 2;", [0, 1], "var v = 0;")
        self.assertEqual(askings, [("s", "seize", (2,)), (NAME, "waits", ("s",))])
        self.assertEqual((outcome, own), (("rest",), own_of((("life", 2, ()),), fields=(1,), asked=("s", 2))))

    def test_faults_of_seize(self):
        for units, fault in (("none", "kind"), ("me", "kind"), ("0", "count"), ("-1", "count"), ("4", "count")):
            self.assertEqual(self.fault(f"seize {units} of s;"), ([], fault), units)
        self.assertEqual(self.fault("seize 2 of t;"), ([], "count"))

    def test_free(self):
        program = class_k("free v of s; sleep;", "var v = 0;")
        grants = [("bob", "grant", MOMENT), ("ann.1", "grant", MOMENT)]
        own = own_of(fields=(2,), held=(("s", 2), ("t", 1)))
        self.assertEqual(self.alone(program, own, [("bob", "ann.1"), 1, 0, 1]),
                         ([("s", "free", (2,))] + grants + [(NAME, "sleep", ())], ("rest",),
                          own_of((("life", 2, ()),), fields=(2,), held=(("t", 1),))))
        own = own_of(fields=(1,), held=(("s", 2),))
        self.assertEqual(self.alone(program, own, [(), 1])[2],
                         own_of((("life", 2, ()),), fields=(1,), held=(("s", 1),)))

    def test_faults_of_free(self):
        program = class_k("free v of s;", "var v = 0;")
        for value, fault in ((None, "kind"), ("bob", "kind"), (0, "count"), (-3, "count"), (3, "unheld"), (9, "unheld")):
            own = own_of(fields=(value,), held=(("s", 2),))
            self.assertEqual(self.alone(program, own, [(), 1]),
                             ([("s", "free", (2,)), fall(fault)], ("fall", fault), own_of((), fields=(value,))), value)
        own = own_of(fields=(1,), held=(("t", 1),))
        self.assertEqual(self.alone(program, own, [(), 1])[1], ("fall", "unheld"))

    def test_free_may_give_back_more_than_the_store_has(self):
        program = class_k("free 9 of s;")
        self.assertEqual(self.alone(program, own_of(held=(("s", 9),)), [(), 1])[0], [("s", "free", (9,)), END])

    def test_wait(self):
        askings, outcome, own = self.first("set v = 1; wait g; set v = 2;", [1, 1], "var v = 0;")
        self.assertEqual((askings, outcome, own[1]), ([("g", "wait", ()), END], ("end",), (2,)))
        askings, outcome, own = self.first("set v = 1; wait g; set v = 2;", [0, 1], "var v = 0;")
        self.assertEqual(askings, [("g", "wait", ()), (NAME, "waits", ("g",))])
        self.assertEqual((outcome, own), (("rest",), own_of((("life", 2, ()),), fields=(1,))))

    def test_open_and_shut(self):
        askings, _, _ = self.first("open g; shut g;", [("cat", "bob"), 1, 1, None, 1])
        self.assertEqual(askings, [("g", "open", ()), ("cat", "grant", MOMENT), ("bob", "grant", MOMENT),
                                   ("g", "shut", ()), END])
        self.assertEqual(self.first("open g;", [(), 1])[0], [("g", "open", ()), END])

    def test_put(self):
        self.assertEqual(self.first("put me into q;", [1, 1])[0], [("q", "put", (NAME,)), END])
        self.assertEqual(self.fault("put none into q;", [0]), ([("q", "put", (None,))], "full"))

    def test_take(self):
        self.assertEqual(self.first("take v from q;", ["bob", 1], "var v = 0;")[2], own_of((), fields=("bob",)))
        self.assertEqual(self.first("take c from w;", [2, None, 1])[0], [("w", "take", ()), ("c", "set", (2,)), END])
        askings, _, _ = self.first("take c.m from q;", [None, "bob", None, 1])
        self.assertEqual(askings, [("q", "take", ()), LOOK, ("bob:m", "set", (None,)), END])
        self.assertEqual(self.fault("take c.m from q;", [1, 1]), ([("q", "take", ()), LOOK], "nolife"))

    def test_make(self):
        program = read_program("mark m = 0; cell c = 0; class e(x, y) { } class k() { var v = 0; life { "
                               "make v = e(c, me); make c.m = e(v, 2); make c = k(); } }")
        own = own_of(fields=(0,), made=7)
        askings, outcome, behind = self.alone(program, own_of(fields=(0,)), [4, 0, 1, "bob", None, 0, None, 1])
        self.assertEqual(askings, [LOOK, ("ann.1", "born", ("e", 4, NAME)), ("ann.2", "born", ("e", "ann.1", 2)), LOOK,
                                   ("bob:m", "set", ("ann.2",)), ("ann.3", "born", ("k",)), ("c", "set", ("ann.3",)), END])
        self.assertEqual(behind, own_of((), fields=("ann.1",), made=3))
        askings, outcome, behind = self.alone(program, own, [4, 1, 1, "bob", None, 1])
        self.assertEqual([row[0] for row in askings], ["c", "ann.8", "ann.9", "c", "bob:m", NAME])
        self.assertEqual((outcome, behind), (("fall", "many"), own_of((), fields=("ann.8",), made=9)))

    def test_faults_of_make(self):
        program = read_program("mark m = 0; cell c = 0; class k(x) { life { make c.m = k(x + 1); } }")
        own = ("k", (1,), (("life", 0, ()),), (), None, 9)
        self.assertEqual(self.alone(program, own, [1])[:2], ([fall("many")], ("fall", "many")))
        self.assertEqual(self.alone(program, own, [1], "ann.1.2.3")[:2],
                         ([("ann.1.2.3", "fall", ("far",))], ("fall", "far")))
        own = ("k", (None,), (("life", 0, ()),), (), None, 9)
        self.assertEqual(self.alone(program, own, [1], "ann.1.2.3")[1], ("fall", "kind"))
        own = ("k", (1,), (("life", 0, ()),), (), None, 8)
        askings, outcome, behind = self.alone(program, own, [1, 0, 1], "ann.1.2")
        self.assertEqual(askings[:2], [("ann.1.2.9", "born", ("k", 2)), LOOK])
        self.assertEqual((outcome, behind[5]), (("fall", "nolife"), 9))


class EndTest(AloneCase):
    def test_what_a_life_gives_back(self):
        program = class_k("leave;")
        own = own_of(fields=(), held=(("s", 2), ("t", 1)), made=5)
        askings = [("s", "free", (2,)), ("bob", "grant", MOMENT), ("cat", "grant", MOMENT), ("t", "free", (1,)),
                   ("dan", "grant", MOMENT), END]
        self.assertEqual(self.alone(program, own, [("bob", "cat"), 1, 0, ("dan",), 1, 1]), (askings, ("end",), own_of((), made=5)))
        program = class_k("set v = 1 / 0;", "var v = 3;")
        own = own_of(fields=(4,), held=(("s", 2), ("t", 1)), made=5)
        self.assertEqual(self.alone(program, own, [("bob", "cat"), 1, 0, ("dan",), 1, 1]),
                         (askings[:-1] + [fall("zero")], ("fall", "zero"), own_of((), fields=(4,), made=5)))

    def test_a_fall_inside_of_a_deed(self):
        program = class_k("do d(2);", "var v = 0; deed d(a) { set v = a; seize a of s; set a = none + 1; }")
        self.assertEqual(self.alone(program, own_of(fields=(0,)), [1, (), 1]),
                         ([("s", "seize", (2,)), ("s", "free", (2,)), fall("kind")], ("fall", "kind"),
                          own_of((), fields=(2,))))

    def test_units_that_were_waited_for_are_given_back(self):
        program = class_k("seize 1 of s; hold none;")
        own = own_of((("life", 1, ()),), held=(("s", 1),), asked=("s", 1))
        self.assertEqual(self.alone(program, own, [(), 1])[0], [("s", "free", (2,)), fall("kind")])


if __name__ == "__main__":
    unittest.main()
