"""Points 75, 78, 79 and 80: writing worlds and reading them again."""

import random
import re
import unittest

from tests.chance import calm_program_text, random_program_text
from tests.crowds import start
from tests.plain import changed, told_happening, whole
from tests.test_sound import sound_world
from tests.texts import refusal
from wokenlives.happenings import happen
from wokenlives.programs import read_program
from wokenlives.runs import follow, run
from wokenlives.sound import broken_rule
from wokenlives.worlds import World, advance, start_world
from wokenlives.worldtext import read_world, write_world

RICH = """
cell c = -4; cell n = 0; line q; line e; store s = 3; store t = 1; gate g shut; gate f open; wheel w = 3; mark m = 2;
class k(p) { var v = -1; life { seize 2 of s; set v = me; do d(p, none); } deed d(i, j) { set j = ann; do r(); } deed r() { hold 7; } }
class b() { life { put bob into q; put -12 into q; put n into q; take v from w; sleep; } var v = 0; }
class o() { life { seize 1 of t; seize 2 of s; } } class x() { life { wait g; } } class z() { life { set c = none; set n = 1 / 0; } }
class y() { life { make n = b(); set n.m = me; } }
start ann = k(5); start bob = b(); start cat = o(); start dan = x(); start eve = z(); start fay = y(); start gus = b() asleep;
start hal = x() at 20;
"""
RICH_TEXT = """moment 0 0
thing ann stand 2 due 7 0
thing ann:m mark 0 2
thing bob stand 2 asleep
thing bob:m mark 0 2
thing c cell 1 none
thing cat stand 2 waits s
thing cat:m mark 0 2
thing dan stand 2 waits g
thing dan:m mark 0 2
thing e line 0 0
thing eve stand 2 fallen zero
thing eve:m mark 0 2
thing f gate 0 1 0
thing fay stand 2 ended
thing fay.1 stand 1 asleep
thing fay.1:m mark 1 fay
thing fay:m mark 0 2
thing g gate 1 0 1 dan
thing gus stand 0 asleep
thing gus:m mark 0 2
thing hal stand 0 due 20 0
thing hal:m mark 0 2
thing n cell 1 fay.1
thing q line 3 3 bob -12 0
thing s store 2 3 1 1 ann 2 1 cat 2
thing t store 1 1 0 1 cat 1 0
thing w wheel 1 3 1
own ann k 0 fields 2 5 ann frames 3 life 3 0 d 2 2 5 ann r 1 0 held 1 s 2 asked none
own bob b 0 fields 1 0 frames 1 life 5 0 held 0 asked none
own cat o 0 fields 0 frames 1 life 2 0 held 1 t 1 asked s 2
own dan x 0 fields 0 frames 1 life 1 0 held 0 asked none
own eve z 0 fields 0 frames 0 held 0 asked none
own fay y 1 fields 0 frames 0 held 0 asked none
own fay.1 b 0 fields 1 0 frames 1 life 0 0 held 0 asked none
own gus b 0 fields 1 0 frames 1 life 0 0 held 0 asked none
own hal x 0 fields 0 frames 1 life 0 0 held 0 asked none"""
RICH_PROGRAM = read_program(RICH)


def rich_world():
    world, _ = follow(start_world(RICH_PROGRAM), ["ann", "bob", "cat", "dan", "eve", "fay"])
    return world


class WriteTest(unittest.TestCase):
    def test_each_kind_and_each_state(self):
        self.assertEqual(write_world(rich_world()), RICH_TEXT)

    def test_states_that_no_sound_world_has(self):
        world = start("class k() { } start ann = k();")
        for state, words in ((("unborn",), "unborn"), (("running",), "running"), (("due", 3, 12), "due 3 12")):
            text = write_world(changed(world, {"ann": state}))
            self.assertEqual(text.split("\n")[1], "thing ann stand 0 " + words)

    def test_the_empty_program(self):
        self.assertEqual(write_world(start("")), "moment 0 0")

    def test_worlds_that_are_advanced(self):
        world = start("class k() { life { hold 0; } } start ann = k() at 3;")
        own = "own ann k 0 fields 0 frames 1 life 0 0 held 0 asked none"
        self.assertEqual(write_world(world), "moment 0 0\nthing ann stand 0 due 3 0\n" + own)
        self.assertEqual(write_world(advance(world)), "moment 3 0\nthing ann stand 0 due 3 0\n" + own)
        world, _ = happen(advance(world), "ann")
        self.assertEqual(write_world(advance(world)).split("\n")[:2], ["moment 3 1", "thing ann stand 2 due 3 1"])

    def test_values_and_waiting(self):
        text = write_world(sound_world())
        self.assertIn("\nthing g gate 2 0 2 cat eve\n", text)
        self.assertIn("\nthing s store 2 3 1 1 ann 2 1 bob 2\n", text)
        self.assertIn("\nthing f gate 0 1 0\n", text)
        self.assertIn("\nown bob k 1 fields 2 2 bob.1 frames 1 life 2 0 held 0 asked s 2\n", text)

    def test_names_stand_in_the_order_of_strings(self):
        names = [row.split(" ")[1] for row in RICH_TEXT.split("\n")[1:28]]
        self.assertEqual(names, sorted(names))


class ReadTest(unittest.TestCase):
    def same(self, program, text):
        world = read_world(program, text)
        self.assertIsInstance(world, World)
        self.assertEqual(world.program, program)
        self.assertEqual(write_world(world), text)
        return world

    def test_each_kind_and_each_state(self):
        world = self.same(RICH_PROGRAM, RICH_TEXT)
        self.assertEqual(whole(world), whole(rich_world()))

    def test_the_empty_program(self):
        self.same(read_program(""), "moment 0 0")
        self.same(read_program(""), "moment 999999999 999999999")

    def test_worlds_of_runs(self):
        for seed in range(60):
            chance = random.Random(seed)
            for text in (random_program_text(chance), calm_program_text(chance)):
                world = start_world(read_program(text))
                for _ in range(12):
                    again = self.same(world.program, write_world(world))
                    self.assertEqual(whole(again), whole(world))
                    if world.coming() is None:
                        break
                    world = advance(world)
                    world, _ = happen(world, chance.choice(world.due()))

    def test_the_world_goes_on_as_the_written_one(self):
        for seed in range(30):
            text = calm_program_text(random.Random(seed))
            world = run(start_world(read_program(text)), most=seed).end
            # The text is read for another object of the same program.
            again = read_world(read_program(text), write_world(world))
            one, other = run(world, most=30), run(again, most=30)
            self.assertEqual(whole(one.end), whole(other.end))
            self.assertEqual([told_happening(row) for row in one], [told_happening(row) for row in other])
            self.assertEqual(one.reason, other.reason)


def rows_of(text):
    return text.split("\n")


class BadRowsTest(unittest.TestCase):
    """Texts of which one row has not its form."""

    def refused(self, rows, place, program=RICH_PROGRAM):
        text = "\n".join(rows)
        self.assertEqual(refusal(read_world, program, text), ("BadWorld", place), text)

    def change(self, old, new, place=None):
        """The rich text with one row replaced is refused at this row."""
        rows = rows_of(RICH_TEXT)
        at = rows.index(old)
        rows[at] = new
        self.refused(rows, at + 1 if place is None else place)

    def test_no_rows(self):
        self.refused([""], 1)
        self.refused(["", ""], 1)
        self.refused([" "], 1)

    def test_the_moment(self):
        for row in ("", "moment", "moment 0", "moment 0 0 0", "moment  0 0", "moment 0 0 ", " moment 0 0",
                    "moment -1 0", "moment 0 -1",
                    "moment 00 0", "moment 0 +1", "moment 1234567890 0", "moment 0 1234567890", "moment 0 none",
                    "moment a 0",
                    "Moment 0 0", "thing c cell 0 0", "moment\t0 0", "moment 0 0\r", "moment 0 \u0663",
                    "moment 0 \u00b2"):
            self.change("moment 0 0", row)
        rows = rows_of(RICH_TEXT)
        self.refused(rows[1:], 1)
        self.refused(rows[:1] + rows[:1] + rows[1:], 2)
        self.refused(rows[:5] + rows[:1] + rows[5:], 6)
        self.refused(rows + rows[:1], len(rows) + 1)

    def test_words_of_all_rows(self):
        for at, row in enumerate(rows_of(RICH_TEXT)):
            for new in ("", row + " ", " " + row, row.replace(" ", "  ", 1), row + " 0 0", row + "\r",
                        row.rpartition(" ")[0],
                        row.partition(" ")[2], row.replace(" ", "\t")):
                rows = rows_of(RICH_TEXT)
                rows[at] = new
                place = at + 1
                if row.startswith("thing") and new.endswith("\r"):
                    continue
                self.refused(rows, place)

    def test_empty_rows(self):
        rows = rows_of(RICH_TEXT)
        for at in (0, 1, 7, 29, len(rows)):
            self.refused(rows[:at] + [""] + rows[at:], at + 1)

    def test_rows_twice_and_in_another_order(self):
        rows = rows_of(RICH_TEXT)
        for at in range(len(rows)):
            self.refused(rows[:at + 1] + rows[at:], at + 2)
        for at in range(1, 27):
            self.refused(rows[:at] + [rows[at + 1], rows[at]] + rows[at + 2:], at + 2)
        for at in range(28, len(rows) - 1):
            self.refused(rows[:at] + [rows[at + 1], rows[at]] + rows[at + 2:], at + 2)

    def test_a_thing_behind_an_own_part(self):
        rows = rows_of(RICH_TEXT)
        self.refused(rows[:27] + [rows[28], rows[27]] + rows[29:], 29)
        self.refused(rows + ["thing zoe.1 stand 0 asleep"], len(rows) + 1)

    def test_the_kind_of_a_thing(self):
        for old, new in (
            ("thing c cell 1 none", "thing c mark 1 none"), ("thing c cell 1 none", "thing c line 1 0"),
            ("thing c cell 1 none", "thing c class 1 none"), ("thing c:m mark 0 2", None),
            ("thing bob:m mark 0 2", "thing bob:m cell 0 2"), ("thing bob:m mark 0 2", "thing bob:m stand 0 asleep"),
            ("thing bob stand 2 asleep", "thing bob start 2 asleep"),
            ("thing bob stand 2 asleep", "thing bob cell 2 0"),
            ("thing g gate 1 0 1 dan", "thing g store 1 0 1 dan"), ("thing w wheel 1 3 1", "thing w cell 1 3"),
            ("thing fay.1 stand 1 asleep", "thing fay.1 mark 1 asleep"), ("thing e line 0 0", "thing e cell 0 0"),
            ("thing q line 3 3 bob -12 0", "thing q cell 3 3"),
            ("thing s store 2 3 1 1 ann 2 1 cat 2", "thing s wheel 2 3 1"),
        ):
            if new is not None:
                self.change(old, new)

    def test_names_of_no_things(self):
        # Names without a dot or a colon, which the program does not have, or of marks and classes.
        rows = rows_of(RICH_TEXT)
        for name, at in (("aaa", 1), ("k", 23), ("m", 23), ("zoe", 28), ("m1", 23), ("A", 1)):
            for kind in ("cell 0 0", "mark 0 0", "stand 0 asleep", "class 0 0"):
                self.refused(rows[:at] + [f"thing {name} {kind}"] + rows[at:], at + 1)

    def test_numbers(self):
        for old, place in (("thing c cell 1 none", 3), ("thing ann stand 2 due 7 0", 3),
                           ("thing ann stand 2 due 7 0", 5),
                           ("thing ann stand 2 due 7 0", 6), ("thing w wheel 1 3 1", 4), ("thing w wheel 1 3 1", 5),
                           ("thing g gate 1 0 1 dan", 3), ("thing g gate 1 0 1 dan", 4), ("thing g gate 1 0 1 dan", 5),
                           ("thing q line 3 3 bob -12 0", 4), ("thing t store 1 1 0 1 cat 1 0", 9),
                           ("thing s store 2 3 1 1 ann 2 1 cat 2", 4), ("thing s store 2 3 1 1 ann 2 1 cat 2", 5),
                           ("thing s store 2 3 1 1 ann 2 1 cat 2", 6), ("thing s store 2 3 1 1 ann 2 1 cat 2", 8),
                           ("thing s store 2 3 1 1 ann 2 1 cat 2", 9), ("thing s store 2 3 1 1 ann 2 1 cat 2", 11),
                           ("own fay y 1 fields 0 frames 0 held 0 asked none", 3),
                           ("own fay y 1 fields 0 frames 0 held 0 asked none", 5),
                           ("own fay y 1 fields 0 frames 0 held 0 asked none", 7),
                           ("own fay y 1 fields 0 frames 0 held 0 asked none", 9),
                           ("own cat o 0 fields 0 frames 1 life 2 0 held 1 t 1 asked s 2", 9),
                           ("own cat o 0 fields 0 frames 1 life 2 0 held 1 t 1 asked s 2", 10),
                           ("own cat o 0 fields 0 frames 1 life 2 0 held 1 t 1 asked s 2", 14),
                           ("own cat o 0 fields 0 frames 1 life 2 0 held 1 t 1 asked s 2", 17)):
            words = old.split(" ")
            number = words[place]
            for word in ("0" + number, "+" + number, "-" + number, "-1", "1234567890", "none", "x", number + ".", "",
                         "\u0661"):
                self.change(old, " ".join(words[:place] + [word] + words[place + 1:]))

    def test_values(self):
        for old, place in (("thing c cell 1 none", 4), ("thing eve:m mark 0 2", 4), ("thing q line 3 3 bob -12 0", 5),
                           ("thing q line 3 3 bob -12 0", 6), ("thing q line 3 3 bob -12 0", 7),
                           ("own bob b 0 fields 1 0 frames 1 life 5 0 held 0 asked none", 6),
                           ("own ann k 0 fields 2 5 ann frames 3 life 3 0 d 2 2 5 ann r 1 0 held 1 s 2 asked none", 7),
                           ("own ann k 0 fields 2 5 ann frames 3 life 3 0 d 2 2 5 ann r 1 0 held 1 s 2 asked none",
                            15)):
            words = old.split(" ")
            for word in ("007", "-0", "-01", "+3", "1234567890", "-1234567890", "Bob", "_a", ".a", ":a", "-", "--1",
                         "3a", "-a", "{",
                         "\u00e4b", "\u0661"):
                self.change(old, " ".join(words[:place] + [word] + words[place + 1:]))

    def test_stands(self):
        for state in ("due", "due 7", "due 7 0 0", "asleep 0", "asleep none", "running 1", "unborn unborn", "waits",
                      "waits s s",
                      "ended 0", "fallen", "fallen zero zero", "fallen many many", "fallen sleepy", "fallen none",
                      "fallen notdue",
                      "fallen Zero", "Asleep", "awake", "sleep", "3", "none", "due a 0", "due -1 0", "due 0 00"):
            self.change("thing ann stand 2 due 7 0", "thing ann stand 2 " + state)

    def test_all_faults(self):
        rows = rows_of(RICH_TEXT)
        for fault in "spent nolife kind zero big early deep count unheld full far many".split():
            text = "\n".join(rows).replace("fallen zero", "fallen " + fault)
            self.assertEqual(write_world(read_world(RICH_PROGRAM, text)), text)

    def test_counts(self):
        for old, new in (
            ("thing q line 3 3 bob -12 0", "thing q line 3 2 bob -12 0"),
            ("thing q line 3 3 bob -12 0", "thing q line 3 4 bob -12 0"),
            ("thing e line 0 0", "thing e line 0 1"), ("thing e line 0 0", "thing e line 0 999999999"),
            ("thing g gate 1 0 1 dan", "thing g gate 1 0 0 dan"), ("thing g gate 1 0 1 dan", "thing g gate 1 0 2 dan"),
            ("thing s store 2 3 1 1 ann 2 1 cat 2", "thing s store 2 3 1 2 ann 2 1 cat 2"),
            ("thing s store 2 3 1 1 ann 2 1 cat 2", "thing s store 2 3 1 1 ann 2 2 cat 2"),
            ("thing s store 2 3 1 1 ann 2 1 cat 2", "thing s store 2 3 1 1 ann 2 0 cat 2"),
            ("own dan x 0 fields 0 frames 1 life 1 0 held 0 asked none",
             "own dan x 0 fields 1 frames 1 life 1 0 held 0 asked none"),
            ("own dan x 0 fields 0 frames 1 life 1 0 held 0 asked none",
             "own dan x 0 fields 0 frames 2 life 1 0 held 0 asked none"),
            ("own dan x 0 fields 0 frames 1 life 1 0 held 0 asked none",
             "own dan x 0 fields 0 frames 0 life 1 0 held 0 asked none"),
            ("own dan x 0 fields 0 frames 1 life 1 0 held 0 asked none",
             "own dan x 0 fields 0 frames 1 life 1 1 held 0 asked none"),
            ("own dan x 0 fields 0 frames 1 life 1 0 held 0 asked none",
             "own dan x 0 fields 0 frames 1 life 1 0 held 1 asked none"),
            ("own cat o 0 fields 0 frames 1 life 2 0 held 1 t 1 asked s 2",
             "own cat o 0 fields 0 frames 1 life 2 0 held 0 t 1 asked s 2"),
        ):
            self.change(old, new)

    def test_words_of_own_parts(self):
        old = "own cat o 0 fields 0 frames 1 life 2 0 held 1 t 1 asked s 2"
        words = old.split(" ")
        for place in (0, 4, 6, 11, 15):
            for word in ("field", "asked", "held", "none", "0", words[place].upper(), words[place] + "s"):
                if word != words[place]:
                    self.change(old, " ".join(words[:place] + [word] + words[place + 1:]))
        self.change(old, old[:-2])
        self.change(old, old + " 1")
        self.change(old, old.replace("s 2", "none none"))
        self.change(old, old.replace(" s 2", ""))

    def test_the_first_of_several_rows(self):
        rows = rows_of(RICH_TEXT)
        rows[5], rows[9], rows[3] = "thing c cell x 0", "", "thing bob stand 2 awake"
        self.refused(rows, 4)
        # A row that has not its form comes before a missing one.
        self.refused(rows_of(RICH_TEXT)[:-2] + ["own"], len(rows) - 1)

    def test_random_changes(self):
        chance = random.Random(11)
        seen = {}
        for _ in range(3000):
            rows = [row.split(" ") for row in rows_of(RICH_TEXT)]
            row = chance.choice(rows)
            at = chance.randrange(len(row))
            change = chance.choice(("set", "set", "cut", "put", "row", "swap"))
            word = chance.choice(("0", "1", "2", "-1", "none", "ann", "s", "g", "fay.1", "asleep", "due", "01", "X", "",
                                  "life", "5"))
            if change == "set":
                row[at] = word
            elif change == "cut":
                del row[at]
            elif change == "put":
                row.insert(at, word)
            elif change == "row":
                rows.remove(row)
            else:
                other = chance.randrange(len(rows))
                rows[other], rows[rows.index(row)] = row, rows[other]
            rows = [" ".join(words) for words in rows]
            found = refusal(read_world, RICH_PROGRAM, "\n".join(rows))
            place = first_bad_row(RICH_PROGRAM, rows)
            if place is None:
                self.assertTrue(found is None or found[0] == "Unsound" or found == ("BadWorld", len(rows) + 1))
            else:
                self.assertEqual(found, ("BadWorld", place), rows)
            seen[found and found[0]] = True
        self.assertEqual(len(seen), 3)


NUMBER = r"(?:0|[1-9][0-9]{0,8})"
VALUE = rf"(?:{NUMBER}|-[1-9][0-9]{{0,8}}|[a-z][^ ]*)"
FAULT = "(?:spent|nolife|kind|zero|big|early|deep|count|unheld|full|far|many)"
STATES = {
    "cell": VALUE, "mark": VALUE, "line": ("list", VALUE), "wheel": f"{NUMBER} {NUMBER}",
    "gate": (NUMBER, "list", "[^ ]+"),
    "store": (f"{NUMBER} {NUMBER}", "list", f"[^ ]+ {NUMBER}", "list", f"[^ ]+ {NUMBER}"),
    "stand": rf"(?:asleep|due {NUMBER} {NUMBER}|running|unborn|waits [^ ]+|ended|fallen {FAULT})",
}


def ends_of(parts, text):
    """All that is left of a text behind these parts: patterns, and lists of a count and so many of the next pattern."""
    if not parts:
        return [text]
    if parts[0] == "list":
        found = []
        count = re.match(f"({NUMBER})(?= |$)", text)
        if count:
            pattern = [f"({NUMBER})"] + [parts[1]] * int(count[1])
            for left in ends_of([" ".join(pattern)], text):
                found += ends_of(parts[2:], left)
        return found
    match = re.match(rf"(?:{parts[0]})(?: |$)", text)
    return ends_of(parts[1:], text[match.end():]) if match else []


def first_bad_row(program, rows):
    """The number of the first row that has not its form at its place, by patterns, or None."""
    last = {"thing": "", "own": ""}
    for at, row in enumerate(rows):
        words = row.split(" ")
        fits = "" not in words
        if at == 0:
            fits = fits and re.fullmatch(f"moment {NUMBER} {NUMBER}", row)
        elif fits and words[0] in last and len(words) > 2 and words[1] > last[words[0]]:
            name = words[1]
            if words[0] == "thing":
                fits = not last["own"] and thing_fits(program, name, row)
            else:
                fits = own_fits(row)
            last[words[0]] = name
        else:
            fits = False
        if not fits:
            return at + 1
    return None


def thing_fits(program, name, row):
    kind = program.kinds.get(name)
    kind = "mark" if ":" in name else "stand" if "." in name or kind == "start" else kind
    if kind not in STATES:
        return False
    state = STATES[kind]
    state = (state,) if isinstance(state, str) else state
    head = re.match(rf"thing [^ ]+ {kind} {NUMBER} ", row)
    return bool(head) and "" in ends_of(state, row[head.end():])


def own_fits(row):
    match = re.match(rf"own [^ ]+ [^ ]+ {NUMBER} fields ", row)
    if not match:
        return False
    for left in ends_of(("list", VALUE, "frames", f"({NUMBER})"), row[match.end():]):
        count = int(row[match.end():len(row) - len(left)].strip().split(" ")[-1])
        parts = (f"[^ ]+ {NUMBER}", "list", VALUE) * count + ("held", "list", f"[^ ]+ {NUMBER}", "asked")
        for end in ends_of(parts, left):
            if re.fullmatch(f"none|[^ ]+ {NUMBER}", end):
                return True
    return False


class MissingTest(unittest.TestCase):
    """Texts whose rows have all their forms, but which lack a thing or an own part or have one too many."""

    def refused(self, rows):
        self.assertEqual(refusal(read_world, RICH_PROGRAM, "\n".join(rows)), ("BadWorld", len(rows) + 1))

    def test_a_missing_row(self):
        rows = rows_of(RICH_TEXT)
        for at in range(1, len(rows)):
            self.refused(rows[:at] + rows[at + 1:])
        self.refused(rows[:1])
        self.refused(rows[:29])

    def test_a_row_too_many(self):
        rows = rows_of(RICH_TEXT)
        for row, at in (("thing ann:n mark 0 0", 3), ("thing ann:m:m mark 0 0", 3), ("thing abe:m mark 0 0", 1),
                        ("thing :m mark 0 0", 1),
                        ("thing ann.1 stand 0 asleep", 2), ("thing zoe.1 stand 0 asleep", 28),
                        ("thing c:m mark 0 0", 6),
                        ("thing fay.1: mark 0 none", 16)):
            self.refused(rows[:at] + [row] + rows[at:])
        for name, at in (("abe", 28), ("c", 30), ("zoe.1", 37), ("ann.1", 29), ("Zoe", 28)):
            row = f"own {name} b 0 fields 1 0 frames 1 life 0 0 held 0 asked none"
            self.refused(rows[:at] + [row] + rows[at:])

    def test_a_whole_life_too_many(self):
        # All rows of a life that no other one has made: nothing is missing, but rule 1 is broken.
        rows = rows_of(RICH_TEXT)
        own = "own zoe.1 b 0 fields 1 0 frames 1 life 0 0 held 0 asked none"
        rows = rows[:29] + ["thing zoe.1 stand 0 asleep", "thing zoe.1:m mark 0 2"] + rows[29:] + [own]
        rows.sort(key=lambda row: (row[0] != "m", row[0] != "t", row.split(" ")[1]))
        self.assertEqual(refusal(read_world, RICH_PROGRAM, "\n".join(rows)), ("Unsound", 1))

    def test_a_whole_life_too_few(self):
        rows = [row for row in rows_of(RICH_TEXT) if row.split(" ")[1] not in ("gus", "gus:m")]
        self.assertEqual(refusal(read_world, RICH_PROGRAM, "\n".join(rows)), ("Unsound", 1))


class UnsoundTest(unittest.TestCase):
    def broken(self, rule, *changes):
        text = RICH_TEXT
        for old, new in changes:
            self.assertIn(old, text)
            text = text.replace(old, new)
        if rule == 0:
            self.assertEqual(write_world(read_world(RICH_PROGRAM, text)), text)
        else:
            self.assertEqual(refusal(read_world, RICH_PROGRAM, text), ("Unsound", rule))

    def test_rule_one(self):
        self.broken(1, ("own fay y 1", "own fay y 0"))
        self.broken(1, ("own fay y 1", "own fay y 10"))
        self.broken(1, ("own gus b 0", "own gus b 999999999"))
        self.broken(1, ("own gus b 0 fields 1 0", "own gus x 0 fields 0"))
        self.broken(1, ("own fay.1 b 0", "own fay.1 c 0"))
        self.broken(1, ("own fay.1 b 0", "own fay.1 B! 0"))
        self.broken(1, ("own gus b 0 fields 1 0", "own gus b 0 fields 2 0 0"))
        self.broken(0, ("own fay.1 b 0 fields 1 0", "own fay.1 o 0 fields 0"))

    def test_rule_two(self):
        self.broken(2, ("thing gus stand 0 asleep", "thing gus stand 0 unborn"))
        self.broken(2, ("thing gus stand 0 asleep", "thing gus stand 0 running"))
        self.broken(2, ("moment 0 0", "moment 7 1"))
        self.broken(2, ("moment 0 0", "moment 8 0"))
        self.broken(0, ("moment 0 0", "moment 7 0"))

    def test_rule_three(self):
        self.broken(3, ("waits g", "waits c"))
        self.broken(3, ("waits g", "waits zoe"))
        self.broken(3, ("waits g", "waits G.!"))
        self.broken(3, ("waits g", "waits f"))
        self.broken(3, ("thing g gate 1 0 1 dan", "thing g gate 1 0 0"))
        self.broken(3, ("thing g gate 1 0 1 dan", "thing g gate 1 0 2 dan dan"))
        self.broken(3, ("thing g gate 1 0 1 dan", "thing g gate 1 0 2 dan zoe"))
        self.broken(3, ("1 cat 2\n", "2 cat 2 gus 1\n"))
        self.broken(3, ("1 cat 2\n", "0\n"))

    def test_rule_four(self):
        self.broken(4, ("store 1 1 0", "store 1 2 0"))
        self.broken(4, ("store 1 1 0", "store 1 1 1"))
        self.broken(4, ("1 cat 1 0", "1 zoe 1 0"))
        self.broken(4, ("1 cat 1 0", "2 cat 1 bob 0 0"))
        self.broken(4, ("1 ann 2 1 cat 2", "2 bob 1 ann 1 1 cat 2"))
        self.broken(4, ("1 ann 2 1 cat 2", "1 ann 2 1 cat 4"))
        self.broken(4, ("1 ann 2 1 cat 2", "1 ann 2 1 cat 1"))
        self.broken(4, ("1 ann 2 1 cat 2", "1 ann 2 1 cat 0"))

    def test_rule_five(self):
        self.broken(5, ("thing g gate 1 0 1 dan", "thing g gate 1 1 1 dan"))
        self.broken(5, ("thing f gate 0 1 0", "thing f gate 0 2 0"))
        self.broken(0, ("thing f gate 0 1 0", "thing f gate 0 0 0"))

    def test_rule_six(self):
        self.broken(6, ("wheel 1 3 1", "wheel 1 3 3"))
        self.broken(6, ("wheel 1 3 1", "wheel 1 4 1"))
        self.broken(6, ("thing e line 0 0", "thing e line 0 21" + " 0" * 21))
        self.broken(0, ("thing e line 0 0", "thing e line 0 20" + " 0" * 20))

    def test_rule_seven(self):
        self.broken(7, ("asked s 2", "asked s 1"))
        self.broken(7, ("asked s 2", "asked none"))
        self.broken(7, ("asked s 2", "asked none 2"))
        self.broken(7, ("asked s 2", "asked c 2"))
        self.broken(7, ("held 1 s 2", "held 1 s 1"))
        self.broken(7, ("held 1 s 2", "held 1 t 2"))
        self.broken(7, ("held 1 s 2", "held 0"))
        self.broken(7, ("held 1 s 2", "held 2 s 1 s 1"))
        self.broken(7, ("life 1 0 held 0 asked none", "life 1 0 held 0 asked t 1"))

    def test_rule_eight(self):
        self.broken(8, ("own eve z 0 fields 0 frames 0", "own eve z 0 fields 0 frames 1 life 0 0"))
        self.broken(8, ("frames 1 life 5 0", "frames 0"))
        self.broken(8, ("frames 1 life 5 0", "frames 1 life 4 0"))
        self.broken(8, ("frames 1 life 5 0", "frames 1 life 6 0"))
        self.broken(8, ("frames 1 life 5 0", "frames 1 Life 0 0"))
        self.broken(8, ("frames 1 life 5 0", "frames 1 life 5 1 0"))
        self.broken(8, ("frames 3 life 3 0 d 2 2 5 ann r 1 0", "frames 2 life 3 0 r 1 0"))
        self.broken(8, ("frames 3 life 3 0 d 2 2 5 ann r 1 0", "frames 3 life 3 0 d 2 1 5 r 1 0"))
        self.broken(8, ("frames 3 life 3 0 d 2 2 5 ann r 1 0", "frames 3 life 3 0 d 1 2 5 ann r 1 0"))
        self.broken(8, ("life 2 0 held 1 t 1", "life 1 0 held 1 t 1"))

    def test_rule_nine(self):
        self.broken(9, ("thing c cell 1 none", "thing c cell 1 zoe"))
        self.broken(9, ("thing eve:m mark 0 2", "thing eve:m mark 0 c"))
        self.broken(9, ("3 bob -12 0", "3 bob -12 ann.1"))
        self.broken(9, ("fields 2 5 ann", "fields 2 5 ann!"))
        self.broken(9, ("d 2 2 5 ann", "d 2 2 5 zoe"))
        self.broken(0, ("thing c cell 1 none", "thing c cell 1 -999999999"))

    def test_the_least_rule(self):
        self.broken(3, ("waits g", "waits c"), ("wheel 1 3 1", "wheel 1 3 3"),
                    ("thing c cell 1 none", "thing c cell 1 zoe"))
        self.broken(1, ("waits g", "waits c"), ("own fay y 1", "own fay y 2"))

    def test_forms_come_before_rules(self):
        text = RICH_TEXT.replace("own fay y 1", "own fay y 2").replace("own gus b 0", "own gus b -1")
        self.assertEqual(refusal(read_world, RICH_PROGRAM, text)[0], "BadWorld")

    def test_random_texts_of_other_worlds(self):
        seen = {}
        for seed in range(40):
            chance = random.Random(seed)
            world = run(start_world(read_program(calm_program_text(chance))), most=15).end
            for life in world.lives():
                owns = {life: world.own_part(chance.choice(world.lives()))}
                other = changed(world, {"num": None, life: chance.choice((("asleep",), ("ended",), ("due", 3, 1)))},
                                owns)
                rule = broken_rule(other)
                found = refusal(read_world, world.program, write_world(other))
                self.assertEqual(found, None if rule == 0 else ("Unsound", rule))
                seen[rule] = True
        self.assertGreater(len(seen), 3)


if __name__ == "__main__":
    unittest.main()
