"""Points 83 and 84."""

import random
import re
import unittest

from tests.chance import calm_program_text, random_program_text
from tests.crowds import start
from tests.texts import refusal
from wokenlives.happenings import happen
from wokenlives.records import read_record, record_of, write_record
from wokenlives.runs import follow, run
from wokenlives.worlds import advance

TEXT = """cell c = 0; store s = 2; gate g shut; line q; mark m = 0;
class k(n) { life { seize n of s; put none into q; put -12 into q; tell hi(now, me); make c = e(7); wait g; } }
class e(p) { } class o() { life { open g; take c from q; set me.m = c; set c = 1 / 0; } } class f() { life { hold 1; set c = stand(bob); } }
start ann = k(1); start bob = k(2); start cat = o(); start dan = f();"""
REAL_TEXT = """happening ann 0 0
touch ann 1 change run 2 0 0 value 1
touch s 1 change seize 1 1 value 1
touch q 1 change put 1 none value 1
touch q 2 change put 1 -12 value 1
touch ann 1 look tell 3 hi 0 ann value 1
touch ann.1 1 change born 2 e 7 value 1
touch c 1 change set 1 ann.1 value none
touch g 1 change wait 0 value 0
touch ann 2 change waits 1 g value 1
happening bob 0 0
touch bob 1 change run 2 0 0 value 1
touch s 2 change seize 1 2 value 0
touch bob 2 change waits 1 s value 1
happening cat 0 0
touch cat 1 change run 2 0 0 value 1
touch g 2 change open 0 lives 1 ann
touch ann 3 change grant 2 0 0 value 1
touch q 3 change take 0 value none
touch c 2 change set 1 none value none
touch c 2 look look 0 value none
touch cat:m 1 change set 1 none value none
touch cat 2 change fall 1 zero value 1"""
ROW = "touch s 2 look seize 2 ann -3 value none"
HEAD = "happening ann 0 0\n"


class RecordTest(unittest.TestCase):
    def happenings(self):
        world, happenings = follow(start(TEXT), ["ann", "bob", "cat"])
        return happenings

    def test_record_of(self):
        happenings = self.happenings()
        found = record_of(happenings)
        self.assertEqual(found, tuple((row.life, row.time, row.stage, row.touches) for row in happenings))
        self.assertEqual([row[:3] for row in found], [("ann", 0, 0), ("bob", 0, 0), ("cat", 0, 0)])
        self.assertEqual(record_of([]), ())
        self.assertEqual(len(happenings), 3)


class WriteTest(RecordTest):
    def test_rows(self):
        rows = write_record(record_of(self.happenings())).split("\n")
        self.assertEqual(rows[:5], [
            "happening ann 0 0", "touch ann 1 change run 2 0 0 value 1", "touch s 1 change seize 1 1 value 1",
            "touch q 1 change put 1 none value 1", "touch q 2 change put 1 -12 value 1"])
        self.assertEqual("\n".join(rows), REAL_TEXT)

    def test_without_happenings_and_without_touches(self):
        self.assertEqual(write_record(()), "")
        self.assertEqual(write_record((("ann", 3, 12, ()), ("b.1", 4, 0, ()))), "happening ann 3 12\nhappening b.1 4 0")

    def test_answers(self):
        for answer, text in (((), "lives 0"), (("ann",), "lives 1 ann"), (("none", "ann.1"), "lives 2 none ann.1"),
                             (None, "value none"),
                             (-7, "value -7"), ("ann", "value ann"), (0, "value 0")):
            record = (("ann", 0, 0, (("s", 2, "look", "free", ("none", None, 5, -5), answer),)),)
            row = "touch s 2 look free 4 none none 5 -5 " + text
            self.assertEqual(write_record(record), HEAD + row)
            again = read_record(HEAD + row)
            self.assertEqual(again[0][3][0][5], answer)
            self.assertEqual(again[0][3][0][4], (None, None, 5, -5))


class ReadTest(unittest.TestCase):
    def test_no_rows(self):
        self.assertEqual(read_record(""), ())

    def test_happenings_without_touches(self):
        self.assertEqual(read_record("happening none 3 12\nhappening b.1:c 4 0"),
                         (("none", 3, 12, ()), ("b.1:c", 4, 0, ())))

    def test_names_and_values(self):
        found = read_record("happening none 0 0\ntouch none 0 look none 3 none n0ne none value none")
        self.assertEqual(found, (("none", 0, 0, (("none", 0, "look", "none", (None, "n0ne", None), None),)),))
        self.assertEqual(read_record(HEAD + "touch value 0 change lives 2 value lives lives 2 none lives")[0][3], (
            ("value", 0, "change", "lives", ("value", "lives"), ("none", "lives")),))
        self.assertEqual(read_record(HEAD + "touch a.1:b 999999999 change d 2 -999999999 0 value -1")[0][3], (
            ("a.1:b", 999999999, "change", "d", (-999999999, 0), -1),))
        self.assertEqual(read_record("happening happening 0 0\ntouch touch 0 look touch 0 lives 0")[0], (
            "happening", 0, 0, (("touch", 0, "look", "touch", (), ()),)))

    def test_records_of_runs(self):
        for seed in range(60):
            chance = random.Random(seed)
            for text in (random_program_text(chance), calm_program_text(chance)):
                world, happenings = start(text), []
                for _ in range(20):
                    if world.coming() is not None:
                        world = advance(world)
                        world, happening = happen(world, chance.choice(world.due()))
                        happenings.append(happening)
                record = record_of(happenings)
                self.assertEqual(read_record(write_record(record)), record)
        record = record_of(run(start(TEXT)).happenings)
        self.assertEqual(read_record(write_record(record)), record)


class BadRecordTest(unittest.TestCase):
    def refused(self, text, place):
        self.assertEqual(refusal(read_record, text), ("BadRecord", place), text)

    def words(self, row, place, words):
        """The row is refused with each of these words in this place, as the third row of a text."""
        parts = row.split(" ")
        self.assertIsNone(refusal(read_record, HEAD + ROW + "\n" + row))
        for word in words:
            self.refused(HEAD + ROW + "\n" + " ".join(parts[:place] + [word] + parts[place + 1:]), 3)

    def test_empty_rows_and_words(self):
        self.refused(" ", 1)
        self.refused("\n", 1)
        self.refused(HEAD, 2)
        self.refused("\n" + HEAD + ROW, 1)
        self.refused(HEAD + ROW + "\n", 3)
        self.refused(HEAD + "\n" + ROW, 2)
        for row in (ROW, "happening bob 1 0"):
            for new in (" " + row, row + " ", row.replace(" ", "  ", 1), row + " 0", row.rpartition(" ")[0],
                        row.partition(" ")[2],
                        row.replace(" ", "\t", 1), row + "\r"):
                self.refused(HEAD + ROW + "\n" + new, 3)

    def test_the_first_row_is_a_happening(self):
        self.refused(ROW, 1)
        self.refused(ROW + "\n" + HEAD + ROW, 1)
        self.assertIsNone(refusal(read_record, HEAD + ROW))

    def test_the_first_word(self):
        self.words(ROW, 0, ("Touch", "touched", "happening", "none", "", "0", "value"))
        self.words("happening bob 1 0", 0, ("Happening", "touch", "happens", ""))

    def test_names(self):
        bad = ("", "0", "1a", "-a", "A", "aB", "a_b", "a-b", "a\tb", "a!", ".a", ":a", "-1", "\u00e4", "a\u00e4", "a\r")
        self.words("happening bob 1 0", 1, bad)
        self.words(ROW, 1, bad)
        self.words(ROW, 4, bad)
        self.words("touch s 2 look free 0 lives 1 bob", 8, bad)

    def test_values(self):
        bad = ("", "00", "01", "-0", "-01", "+1", "1234567890", "-1234567890", "1a", "A", "aB", "a_b", "a!", ".a", ":a",
               "-", "\u0661",
               "a\u00e4", "a\r")
        self.words(ROW, 6, bad)
        self.words(ROW, 7, bad)
        self.words(ROW, 9, bad)

    def test_numbers_that_are_not_negative(self):
        bad = ("", "-1", "00", "01", "-0", "+1", "1234567890", "none", "a", "1a", "\u0661", "\u00b2")
        for place in (2, 3):
            self.words("happening bob 1 0", place, bad)
        self.words(ROW, 2, bad)
        self.words(ROW, 5, bad)
        self.words("touch s 2 look free 0 lives 1 bob", 7, bad)

    def test_modes_and_answers(self):
        self.words(ROW, 3, ("", "Change", "changes", "none", "looks", "0", "value"))
        self.words(ROW, 8, ("", "Value", "values", "lives", "none", "0"))
        self.words("touch s 2 look free 0 lives 1 bob", 6, ("", "life", "value", "none"))

    def test_counts(self):
        self.words(ROW, 5, ("0", "1", "3", "4", "999999999"))
        self.words("touch s 2 look free 0 lives 2 bob ann", 7, ("0", "1", "3", "999999999"))
        self.words("touch s 2 look free 0 lives 0", 7, ("1", "2"))

    def test_the_first_of_several_rows(self):
        self.refused(HEAD + ROW + "\ntouch A\nhappening", 3)
        self.refused("Happening a 0 0\n" + ROW, 1)

    def test_random_changes(self):
        chance = random.Random(3)
        seen = {}
        for _ in range(3000):
            rows = [row.split(" ") for row in REAL_TEXT.split("\n")]
            row = chance.choice(rows)
            at = chance.randrange(len(row))
            change = chance.choice(("set", "cut", "put", "row"))
            word = chance.choice(("0", "1", "2", "-1", "none", "ann", "lives", "value", "look", "01", "X", "", "a.1:b",
                                  "happening"))
            if change == "set":
                row[at] = word
            elif change == "cut":
                del row[at]
            elif change == "put":
                row.insert(at, word)
            else:
                rows.remove(row)
            rows = [" ".join(words) for words in rows]
            bad = [place for place, row in enumerate(rows, 1) if not row_fits(row, place)]
            found = refusal(read_record, "\n".join(rows))
            self.assertEqual(found, ("BadRecord", bad[0]) if bad else None, rows)
            if not bad:
                self.assertEqual(write_record(read_record("\n".join(rows))), "\n".join(rows))
            seen[bool(bad)] = True
        self.assertEqual(len(seen), 2)


NUMBER = "(?:0|[1-9][0-9]{0,8})"
NAME = "[a-z][a-z0-9.:]*"
VALUE = f"(?:{NUMBER}|-[1-9][0-9]{{0,8}}|{NAME})"


def row_fits(row, place):
    """Whether a row of a record has its form, by patterns."""
    if re.fullmatch(f"happening {NAME} {NUMBER} {NUMBER}", row):
        return True
    head = re.match(f"touch {NAME} {NUMBER} (?:change|look) {NAME} ({NUMBER})(?= )", row)
    if place == 1 or not head:
        return False
    rest = re.match(f" {VALUE}" * int(head[1]), row[head.end():]) if int(head[1]) < 50 else None
    if not rest:
        return False
    answer = row[head.end() + rest.end():]
    lives = re.match(f" lives ({NUMBER})(?= |$)", answer)
    if lives and int(lives[1]) < 50:
        return bool(re.fullmatch(f" {NAME}" * int(lives[1]), answer[lives.end():]))
    return bool(re.fullmatch(f" value {VALUE}", answer))


if __name__ == "__main__":
    unittest.main()
