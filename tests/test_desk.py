"""Points 88, 89 and 90."""

import random
import unittest
from unittest import mock

from tests.chance import calm_program_text
from tests.crowds import crowd_text, start
from tests.plain import whole
from tests.test_counts import CROSSED, TREE
from tests.texts import refusal
from wokenlives import desk as desks
from wokenlives.desk import Desk, replay
from wokenlives.errors import LivesError
from wokenlives.journeys import Journey
from wokenlives.runs import run
from wokenlives.worldtext import read_world, write_world

TEXT = """cell c = 0; line q; store s = 2; gate g shut; wheel w = 3; mark m = 5;
class k(n) { life { while n > 0 { set n = n - 1; set c = c + 1; tell step(n, c, none); hold 2; } } }
class f() { life { put me into q; put -4 into q; seize 1 of s; set c = 1 / 0; } } class e() { life { seize 2 of s; wait g; } }
start bob = k(2); start ann = k(1); start cat = k(1) at 1; start dan = k(9) asleep; start eve = f() at 3; start fay = e() at 3;"""


def state_of(desk):
    """All that a desk shows."""
    asked = [desk.answer(row) for row in ("due", "moment", "told", "world", "journal")]
    asked += [refusal(desk.answer, row) or desk.answer(row) for row in ("alike", "orders", "parting")]
    for thing in desk.journey.world.things():
        asked += [desk.answer(f"state {thing}"), desk.answer(f"book {thing}")]
    happenings = [tuple(vars(row).values()) for row in desk.journey.happenings]
    return (asked, happenings, desk.journal_rows(), whole(desk.journey.world), desk.busy)


class DeskCase(unittest.TestCase):
    def setUp(self):
        self.desk = Desk(TEXT)

    def answer(self, row, desk=None):
        desk = desk or self.desk
        found = desk.answer(row)
        self.assertIsInstance(found, list)
        self.assertTrue(all(isinstance(text, str) for text in found))
        self.assertIs(desk.busy, False)
        return found

    def refused(self, row, *error):
        """The row raises this error and leaves the desk as it was."""
        before = state_of(self.desk)
        self.assertEqual(refusal(self.desk.answer, row), error, row)
        self.assertIs(self.desk.busy, False)
        self.assertEqual(state_of(self.desk), before)


class NewDeskTest(DeskCase):
    def test_where_it_begins(self):
        self.assertIsInstance(self.desk.journey, Journey)
        self.assertIs(self.desk.busy, False)
        self.assertEqual(self.desk.journal_rows(), [])
        self.assertEqual(whole(self.desk.journey.world), whole(start(TEXT)))
        later = Desk("class k() { } start ann = k() at 3;")
        self.assertEqual(self.answer("moment", later), ["3 0"])

    def test_errors_of_the_program(self):
        self.assertEqual(refusal(Desk, "cell c"), ("BadForm", 1, 7))
        self.assertEqual(refusal(Desk, "cell C"), ("BadSign", 1, 6))
        self.assertEqual(refusal(Desk, "cell c = 0; cell c = 0;"), ("DoubleName", "c", 1, 18))
        self.assertEqual(refusal(replay, "cell c", ["due"]), ("BadForm", 1, 7))


class ChangingRowsTest(DeskCase):
    def test_go(self):
        self.assertEqual(self.answer("go bob"), ["bob rest"])
        self.assertEqual(self.answer("go ann"), ["ann rest"])
        self.assertEqual(self.answer("moment"), ["1 0"])
        self.assertEqual(self.answer("go cat"), ["cat rest"])
        self.assertEqual(self.answer("go ann"), ["ann end"])
        self.assertEqual(self.desk.journal_rows(), ["go bob", "go ann", "go cat", "go ann"])
        self.assertEqual(self.desk.journey.names(), ["bob", "ann", "cat", "ann"])

    def test_a_life_that_is_not_due(self):
        self.answer("go ann")
        for name in ("ann", "cat", "dan", "zoe", "c", "ann:m", "none", "0", "Ann", "b\tob", "bob\n", "\u00e4"):
            self.refused("go " + name, "NotDue", name)
        quiet = Desk("")
        self.assertEqual(refusal(quiet.answer, "go ann"), ("NotDue", "ann"))

    def test_run(self):
        self.assertEqual(self.answer("run 0"), ["most"])
        self.assertEqual(self.answer("run 3"), ["ann rest", "bob rest", "cat rest", "most"])
        self.assertEqual(self.answer("run 999999999"), [
            "ann end", "bob rest", "cat end", "eve fall zero", "fay rest", "bob end", "quiet"])
        self.assertEqual(self.answer("run 5"), ["quiet"])
        self.assertEqual(self.desk.journal_rows(), ["run 0", "run 3", "run 999999999", "run 5"])
        self.assertEqual(write_world(self.desk.journey.world), write_world(run(start(TEXT)).end))

    def test_until(self):
        self.assertEqual(self.answer("until 0"), ["ann rest", "bob rest", "until"])
        self.assertEqual(self.answer("until 0"), ["until"])
        self.assertEqual(self.answer("until 2"), ["cat rest", "ann end", "bob rest", "until"])
        self.assertEqual(self.answer("until 999999999"), ["cat end", "eve fall zero", "fay rest", "bob end", "quiet"])
        self.assertEqual(self.desk.journal_rows(), ["until 0", "until 0", "until 2", "until 999999999"])

    def test_until_makes_at_most_200_happenings(self):
        desk = Desk("class k() { life { while 1 { hold 1; } } } start ann = k();")
        self.assertEqual(self.answer("until 500", desk), ["ann rest"] * 200 + ["most"])
        self.assertEqual(self.answer("run 300", desk), ["ann rest"] * 300 + ["most"])
        self.assertEqual(self.answer("until 500", desk), ["ann rest", "until"])
        self.assertEqual(self.answer("undo", desk), ["until 500"])
        self.assertEqual(self.answer("moment", desk), ["500 0"])

    def test_undo(self):
        shown = []
        rows = ["go bob", "run 0", "run 3", "until 2", "until 9", "run 7"]
        for row in rows:
            shown.append(state_of(self.desk))
            self.answer(row)
        behind = state_of(self.desk)
        for row in rows[::-1]:
            self.assertEqual(self.answer("undo"), [row])
            self.assertEqual(state_of(self.desk), shown.pop())
        self.refused("undo", "NoPlace", 1)
        for row in rows:
            self.answer(row)
        self.assertEqual(state_of(self.desk), behind)

    def test_undo_and_the_removed_row_again(self):
        for row in ("go ann", "go bob", "run 0", "run 2", "until 1", "until 4", "run 99", "until 5"):
            self.answer(row)
            shown = state_of(self.desk)
            self.answer(self.answer("undo")[0])
            self.assertEqual(state_of(self.desk), shown)

    def test_undo_at_an_empty_journal(self):
        self.refused("undo", "NoPlace", 1)
        self.answer("go ann")
        self.answer("undo")
        self.refused("undo", "NoPlace", 1)
        self.assertEqual(refusal(Desk("").answer, "undo"), ("NoPlace", 1))


class AskingRowsTest(DeskCase):
    def test_due_and_moment(self):
        self.assertEqual((self.answer("due"), self.answer("moment")), (["ann", "bob"], ["0 0"]))
        self.answer("until 0")
        self.assertEqual((self.answer("due"), self.answer("moment")), (["cat"], ["1 0"]))
        self.answer("run 99")
        self.assertEqual((self.answer("due"), self.answer("moment")), ([], ["4 0"]))
        desk = Desk("class k() { life { hold 0; } } start ann = k() at 7;")
        self.answer("go ann", desk)
        self.assertEqual(self.answer("moment", desk), ["7 1"])

    def test_states(self):
        for thing, text in (("c", "0 number 0"), ("q", "0 number 0"), ("s", "2 2 0 0 number 0"), ("g", "0 0 number 0"),
                            ("w", "3 0 number 0"),
                            ("ann:m", "5 number 0"), ("ann", "due 0 0 number 0"), ("dan", "asleep number 0")):
            self.assertEqual(self.answer("state " + thing), [text])
        self.answer("run 99")
        for thing, text in (("c", "4 number 4"), ("q", "2 eve -4 number 2"), ("s", "2 0 1 fay 2 0 number 3"),
                            ("g", "0 1 fay number 1"),
                            ("ann", "ended number 4"), ("eve", "fallen zero number 2"), ("fay", "waits g number 2")):
            self.assertEqual(self.answer("state " + thing), [text])
        desk = Desk("cell c = 0; class k() { life { set c = none; sleep; } } start ann = k();")
        self.answer("go ann", desk)
        self.assertEqual((self.answer("state c", desk), self.answer("state ann", desk)),
                         (["none number 1"], ["asleep number 2"]))

    def test_states_are_what_stands_behind_the_number(self):
        self.answer("run 8")
        for row in self.answer("world"):
            words = row.split(" ")
            if words[0] == "thing":
                self.assertEqual(self.answer("state " + words[1]), [" ".join(words[4:]) + " number " + words[3]])

    def test_books(self):
        self.assertEqual(self.answer("book c"), [])
        self.answer("go bob")
        self.assertEqual(self.answer("book c"), [
            "0 look bob 0 0 look", "1 change bob 0 0 set", "1 look bob 0 0 look"])
        self.assertEqual(self.answer("book bob"), ["1 change bob 0 0 run", "1 look bob 0 0 tell",
                                                   "2 change bob 0 0 hold"])
        self.answer("go ann")
        self.assertEqual(self.answer("book c"), [
            "0 look bob 0 0 look", "1 change bob 0 0 set", "1 look ann 0 0 look", "1 look bob 0 0 look",
            "2 change ann 0 0 set",
            "2 look ann 0 0 look"])
        self.assertEqual(self.answer("book w"), [])

    def test_things_that_are_not_there(self):
        for word in ("state", "book"):
            for thing in ("zoe", "k", "m", "ann.1", "ann:n", "zoe:m", "none", "0", "C", "c\n", "\tc", "c:m"):
                self.refused(f"{word} {thing}", "NoThing", thing)
        desk = Desk("cell c = 0; class k() { life { make c = e(); } } class e() { } start ann = k();")
        self.assertEqual(refusal(desk.answer, "state ann.1"), ("NoThing", "ann.1"))
        self.answer("go ann", desk)
        self.assertEqual(self.answer("state ann.1", desk), ["asleep number 1"])
        self.assertEqual(self.answer("book ann.1", desk), ["1 change ann 0 0 born"])
        self.answer("undo", desk)
        self.assertEqual(refusal(desk.answer, "book ann.1"), ("NoThing", "ann.1"))

    def test_told(self):
        self.assertEqual(self.answer("told"), [])
        self.answer("run 99")
        self.assertEqual(self.answer("told"), [
            "ann 0 0 step 0 1 none", "bob 0 0 step 1 2 none", "bob 2 0 step 0 4 none", "cat 1 0 step 0 3 none"])

    def test_alike_orders_and_parting(self):
        self.assertEqual(self.answer("alike"), ["no"])
        self.assertEqual(self.answer("parting"), ["", "ann", "bob", "c"])
        self.refused("orders", "Crossed", ("ann",), ("bob",))
        self.answer("until 0")
        self.assertEqual((self.answer("alike"), self.answer("orders"), self.answer("parting")),
                         (["yes"], ["1"], ["none"]))
        desk = Desk(TREE)
        self.assertEqual((self.answer("alike", desk), self.answer("orders", desk), self.answer("parting", desk)),
                         (["yes"], ["15"], ["none"]))
        desk = Desk(CROSSED)
        self.assertEqual(self.answer("parting", desk), ["", "bob", "cat", "c"])
        self.assertEqual(refusal(desk.answer, "orders"), ("Crossed", ("bob",), ("cat",)))
        desk = Desk("")
        self.assertEqual((self.answer("alike", desk), self.answer("orders", desk), self.answer("parting", desk)),
                         (["yes"], ["1"], ["none"]))

    def test_a_parting_with_a_course(self):
        desk = Desk("""cell c = 0; class w() { life { wake cat; } } class x() { life { wake dan; } } class f() { life { set c = c + 1; } }
        start ann = w(); start bob = x(); start cat = f() asleep; start dan = f() asleep;""")
        self.assertEqual(self.answer("parting", desk), ["ann bob", "cat", "dan", "c"])
        self.answer("go bob", desk)
        self.assertEqual(self.answer("parting", desk), ["ann", "dan", "cat", "c"])

    def test_forests_that_are_too_long(self):
        endless = """class a() { life { while 1 { wake bob; sleep; } } } class b() { life { while 1 { wake ann; sleep; } } }
        start ann = a(); start bob = b() asleep;"""
        desk = Desk(endless)
        for row in ("alike", "orders", "parting"):
            self.assertEqual(refusal(desk.answer, row), ("TooLong", 120))
            self.assertIs(desk.busy, False)
        # Orders need the whole forest; for the parting the first generation is enough.
        desk = Desk(endless + "cell c = 0; class e() { life { set c = c + 1; } } start cat = e(); start dan = e();")
        self.assertEqual((self.answer("alike", desk), self.answer("parting", desk)), (["no"], ["", "cat", "dan", "c"]))
        self.assertEqual(refusal(desk.answer, "orders"), ("TooLong", 120))
        many = "class k(n) { life { while n > 1 { set n = n - 1; wake bob; sleep; } } } class b() { life { while 1 { wake ann; sleep; } } }"
        desk = Desk(many + "start ann = k(60); start bob = b() asleep; start cat = k(1);")
        self.assertEqual((self.answer("alike", desk), self.answer("orders", desk)), (["yes"], ["120"]))

    def test_world_and_journal(self):
        self.answer("go bob")
        self.answer("run 4")
        self.assertEqual(self.answer("world"), write_world(self.desk.journey.world).split("\n"))
        self.assertEqual(self.answer("journal"), ["go bob", "run 4"])
        again = read_world(self.desk.journey.world.program, "\n".join(self.answer("world")))
        self.assertEqual(whole(again), whole(self.desk.journey.world))
        self.assertEqual(self.answer("world", Desk("")), ["moment 0 0"])

    def test_asking_rows_change_nothing(self):
        for row in ("run 0", "go ann", "run 5"):
            before = state_of(self.desk)
            self.assertEqual(state_of(self.desk), before)
            self.answer(row)

    def test_new_lists(self):
        self.answer("go ann")
        for row in ("due", "journal", "world", "told", "moment", "book c"):
            self.answer(row).append("x")
            self.assertNotIn("x", self.answer(row))
        self.desk.journal_rows().clear()
        self.assertEqual(self.desk.journal_rows(), ["go ann"])
        self.answer("go bob").clear()
        self.assertEqual(self.desk.journey.names(), ["ann", "bob"])


class BadRowsTest(DeskCase):
    def test_rows_that_are_none(self):
        rows = ["", " ", "go", "go ", "go  ann", " go ann", "go ann ", "go ann bob", "go\tann", "Go ann", "gone ann",
                "goann",
                "run", "run ", "run -1", "run 01", "run 00", "run +1", "run 1.0", "run one", "run 1 ", "run  1",
                "run 1 1", "run 1234567890",
                "run -0", "run none", "run \u0661", "run \u00b2", "run 1\n", "RUN 1", "until", "until ", "until -1",
                "until 007", "until x",
                "until 1000000000", "until 1 2", "undo ", " undo", "undo 1", "undo undo", "Undo", "due ", "due ann",
                " due", "due\n",
                "moment 0", "moment ", "state", "state ", "state  c", "state c ", "state c d", "State c", "states c",
                "book", "book ", "book c c",
                "told ", "told ann", "alike ", "alike 120", "orders 1", "orders ", "parting x", "partings", "world ",
                "world w", "journal ",
                "journal 1", "journals", "1", "none", "ann", "redo", "stop", "go\nann", "\n", "due due", "run\t1",
                "\u00e4"]
        for row in rows:
            self.refused(row, "BadRow", row)

    def test_rows_of_the_right_form(self):
        for row in ("go ann", "run 0", "run 10", "run 999999999", "until 0", "until 999999999", "undo", "due", "moment",
                    "state c",
                    "book c", "told", "alike", "orders", "parting", "world", "journal"):
            self.answer(row)


class ErrorsTest(DeskCase):
    def test_errors_leave_the_desk_as_it_was(self):
        self.answer("go bob")
        for row, error in (("go bob", "NotDue"), ("state zoe", "NoThing"), ("book zoe", "NoThing"), ("what", "BadRow")):
            before = state_of(self.desk)
            self.assertEqual(refusal(self.desk.answer, row)[0], error)
            self.assertEqual(state_of(self.desk), before)
        self.assertEqual(self.answer("journal"), ["go bob"])

    def test_busy(self):
        seen = []

        def look(desk):
            seen.append(desk.busy)
            return []

        def fail(desk):
            seen.append(desk.busy)
            raise LivesError("failed")

        with mock.patch.dict(desks.ALONE, {"due": look, "told": fail}):
            self.assertEqual(self.answer("due"), [])
            self.assertRaises(LivesError, self.desk.answer, "told")
        self.assertEqual((seen, self.desk.busy), ([True, True], False))


class ReplayTest(DeskCase):
    def same(self, text, one, other):
        self.assertEqual(state_of(one), state_of(other))
        self.assertIsInstance(other, Desk)

    def test_the_journal_of_another_desk(self):
        for row in ("go bob", "due", "run 0", "until 1", "told", "run 2", "undo", "go ann", "until 3", "world"):
            self.answer(row)
        rows = self.desk.journal_rows()
        self.assertEqual(rows, ["go bob", "run 0", "until 1", "go ann", "until 3"])
        other = replay(TEXT, rows)
        self.assertEqual(rows, ["go bob", "run 0", "until 1", "go ann", "until 3"])
        self.same(TEXT, self.desk, other)
        for row in ("undo", "run 1", "undo", "undo", "until 8", "told"):
            self.assertEqual(self.answer(row), self.answer(row, other))
            self.same(TEXT, self.desk, other)

    def test_no_rows(self):
        self.same(TEXT, Desk(TEXT), replay(TEXT, []))

    def test_asking_rows_and_undo_among_the_rows(self):
        self.assertEqual(replay(TEXT, ("due", "go ann", "undo", "world", "go bob")).journal_rows(), ["go bob"])

    def test_the_first_row_that_raises(self):
        self.assertEqual(refusal(replay, TEXT, ["go ann", "go ann", "what"]), ("NotDue", "ann"))
        self.assertEqual(refusal(replay, TEXT, ["what", "go zoe"]), ("BadRow", "what"))
        self.assertEqual(refusal(replay, TEXT, ["undo"]), ("NoPlace", 1))
        self.assertEqual(refusal(replay, TEXT, ["go ann", "state zoe"]), ("NoThing", "zoe"))
        self.assertEqual(refusal(replay, TEXT, ["orders"]), ("Crossed", ("ann",), ("bob",)))

    def test_random_desks(self):
        for seed in range(25):
            chance = random.Random(seed)
            text = calm_program_text(chance) if seed % 2 else crowd_text(chance, 4, 0.6)
            desk = Desk(text)
            shown = [state_of(desk)]
            for _ in range(12):
                due = desk.answer("due")
                row = chance.choice([f"go {life}" for life in due] + ["run 1", "run 2", "until 1", "undo", "undo",
                                                                      "go zoe"])
                error = refusal(desk.answer, row)
                if row == "undo":
                    self.assertEqual(error, ("NoPlace", 1) if len(shown) == 1 else None)
                    shown = shown[:max(1, len(shown) - 1)]
                elif row == "go zoe":
                    self.assertEqual(error, ("NotDue", "zoe"))
                else:
                    self.assertIsNone(error)
                    shown.append(state_of(desk))
                self.assertEqual(state_of(desk), shown[-1])
                self.same(text, desk, replay(text, desk.journal_rows()))


if __name__ == "__main__":
    unittest.main()
