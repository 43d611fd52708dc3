"""Points 83 and 85."""

import random
import unittest
from unittest import mock

from tests.chance import calm_program_text, random_program_text
from tests.crowds import crowd_text
from tests.oracle import oracle_alone
from tests.texts import refusal
from wokenlives.happenings import happen
from wokenlives.looker import faults
from wokenlives.programs import read_program
from wokenlives.records import read_record, record_of, write_record
from wokenlives.runs import follow, run
from wokenlives.things import do_deed, fits, start_state
from wokenlives.worlds import World, advance, start_world

THINGS = ("cell", "line", "store", "gate", "wheel")


def is_true(program, record):
    """Whether a record is that of an advancing course, by running the course."""
    try:
        _, happenings = follow(start_world(program), [row[0] for row in record], advancing=True)
    except ValueError:
        return False
    return record_of(happenings) == record


def fitting(deed, answer):
    """Point 46."""
    number = isinstance(answer, int)
    value = answer is None or isinstance(answer, str) or (number and abs(answer) <= 999999999)
    truth = answer in (0, 1) and number
    names = isinstance(answer, tuple) and all(isinstance(name, str) for name in answer)
    forms = {"look take first": value, "length spare waiting": number and 0 <= answer <= 999999999,
             "stand": number and 0 <= answer <= 6,
             "seize wait isopen put born run tell sleep hold waits end fall wake stop grant": truth, "free open": names,
             "set shut": answer is None}
    return any(deed in words.split(" ") and fits for words, fits in forms.items())


def first_of_life(program, record, life, place):
    """The first own part of a life whose first happening has this place, or None."""
    item = program.item(life) if program.kinds.get(life) == "start" else None
    told = [told[4] for row in record[:place] for told in row[3] if told[0] == life and told[3] == "born" and told[5] == 1]
    if item:
        name, values = item[2], item[3]
    elif told and told[0]:
        name, values = told[0][0], told[0][1:]
    else:
        return None
    if program.kinds.get(name) != "class" or len(program.flats[name][2]) != len(values):
        return None
    variables = tuple(member[2] for member in program.flats[name][4] if member[0] == "var")
    return (name, values + variables, (("life", 0, ()),), (), None, 0)


def life_fault(program, record, life):
    """The place at which the slice of a life fails, or None."""
    places = [place for place, row in enumerate(record) if row[0] == life]
    own = first_of_life(program, record, life, places[0])
    for place in places:
        _, time, stage, touches = record[place]
        if own is None or not all(fitting(told[3], told[5]) for told in touches):
            return place
        try:
            askings, outcome, own = oracle_alone(program, life, own, (time, stage), [told[5] for told in touches])
        except (TypeError, ValueError, KeyError):
            # An answer that fits its own deed was given to another one.
            return place
        if askings != [(told[0], told[3], told[4]) for told in touches] or outcome in (("open",), ("notdue",)):
            return place
    return None


def kind_of(program, thing):
    if ":" in thing:
        return "mark"
    return program.kinds[thing] if program.kinds.get(thing) in THINGS else "stand"


def thing_fault(program, record, thing):
    """The place at which the slice of a thing fails, or None."""
    kind, number = kind_of(program, thing), 0
    name = thing.split(":")[-1]
    fits_mark = kind != "mark" or program.kinds.get(name) == "mark"
    known = kind != "stand" or program.kinds.get(thing) == "start"
    state = start_state(program.item(name)) if fits_mark and known else ("unborn",)
    for place, (life, _, _, touches) in enumerate(record):
        for told in touches:
            if told[0] == thing:
                if not fits_mark or not fits(kind, told[3], told[4]):
                    return place
                after, answer = do_deed(kind, state, life, told[3], told[4])
                mode = "look" if after == state else "change"
                number += after != state
                state = after
                if told != (thing, number, mode, told[3], told[4], answer):
                    return place
    return None


def moment_fault(program, record):
    """The place at which the slice of the moments fails, or None."""
    stands = {item[1]: start_state(item) for item in program.tree if item[0] == "start"}
    for place, (life, time, stage, touches) in enumerate(record):
        before = (0, 0) if place == 0 else record[place - 1][1:3]
        late = [state for state in stands.values() if state[0] == "due" and state[1:] < (time, stage)]
        if (time, stage) < before or (time, stage) < (0, 0) or late:
            return place
        for thing, _, _, deed, arguments, _ in touches:
            if kind_of(program, thing) == "stand" and fits("stand", deed, arguments):
                stands[thing] = do_deed("stand", stands.get(thing, ("unborn",)), life, deed, arguments)[0]
    return None


def faults_by_definition(program, record):
    lives = {row[0] for row in record}
    things = {told[0] for row in record for told in row[3]}
    found = [("life", life, life_fault(program, record, life)) for life in lives]
    found += [("thing", thing, thing_fault(program, record, thing)) for thing in things]
    found.append(("moments", "", moment_fault(program, record)))
    return sorted(row for row in found if row[2] is not None)


TEXT = """cell c = 0; line q; store s = 2; gate g shut; gate f open; wheel w = 3; mark m = 5;
class k(n) { life { set c = c + n; set me.m = 1; hold 2; set c = c + 1; tell bye(c); } }
class a() { var x = 0; life { make x = k(4); wake x; make x = e(); sleep; } } class e() { }
class l() { life { seize 1 of s; wait f; put me into q; take c from w; hold 3; free 1 of s; } }
start ann = k(1); start bob = a(); start cat = e() asleep; start dan = l(); start eve = e() at 9;"""
PROGRAM = read_program(TEXT)


def true_record(names=("ann", "bob", "bob.1", "dan", "ann", "bob.1", "dan", "eve")):
    return record_of(follow(start_world(PROGRAM), names, advancing=True)[1])


def with_happening(record, place, **parts):
    """The record with parts of a happening replaced: life, time, stage or touches."""
    row = dict(zip(("life", "time", "stage", "touches"), record[place]))
    row.update(parts)
    return record[:place] + (tuple(row.values()),) + record[place + 1:]


def with_touch(record, place, at, **parts):
    """The record with parts of a touch replaced."""
    touches = record[place][3]
    told = dict(zip(("thing", "number", "mode", "deed", "arguments", "answer"), touches[at]))
    told.update(parts)
    return with_happening(record, place, touches=touches[:at] + (tuple(told.values()),) + touches[at + 1:])


class FaultsCase(unittest.TestCase):
    def faults(self, record, program=PROGRAM):
        kept = repr(record)
        found = faults(program, record)
        self.assertIsInstance(found, list)
        self.assertEqual(repr(record), kept)
        self.assertEqual(found, faults_by_definition(program, record))
        self.assertEqual(found == [], is_true(program, record))
        return found


class TrueRecordsTest(FaultsCase):
    def test_without_happenings(self):
        self.assertEqual(self.faults(()), [])
        self.assertEqual(faults(read_program(""), ()), [])

    def test_a_course(self):
        record = true_record()
        self.assertEqual(len(record), 8)
        for many in range(9):
            self.assertEqual(self.faults(record[:many]), [])
        self.assertEqual(self.faults(true_record(("dan", "bob", "ann", "bob.1", "bob.1", "ann", "dan", "eve"))), [])

    def test_courses_of_random_programs(self):
        for seed in range(60):
            chance = random.Random(seed)
            for text in (random_program_text(chance), calm_program_text(chance), crowd_text(chance, 4, 0.8)):
                program = read_program(text)
                self.assertEqual(self.faults(random_record(chance, program, 20), program), [])

    def test_it_makes_no_world(self):
        record = true_record()
        with mock.patch.object(World, "__init__", side_effect=AssertionError):
            self.assertEqual(faults(PROGRAM, record), [])
            self.assertRaises(AssertionError, start_world, PROGRAM)

    def test_the_order_of_the_lives_matters_where_they_meet(self):
        record = true_record(("ann", "dan"))
        self.assertEqual(self.faults(record[::-1]), [("thing", "c", 0)])


class LifeSliceTest(FaultsCase):
    def test_a_life_that_nothing_names(self):
        record = (("zoe", 0, 0, (("zoe", 0, "look", "run", (0, 0), 0),)),)
        self.assertEqual(self.faults(record), [("life", "zoe", 0)])
        record = true_record()
        self.assertEqual(self.faults(record[:1] + record[2:3]), [("life", "bob.1", 1), ("thing", "bob.1", 1)])
        self.assertEqual(self.faults((("zoe", 0, 0, ()),)), [("life", "zoe", 0)])
        self.assertEqual(self.faults((("c", 0, 0, ()),)), [("life", "c", 0)])

    def test_another_answer(self):
        # ann sees another value than the cell has.
        record = with_touch(true_record(), 0, 1, answer=7)
        self.assertEqual(self.faults(record), [("life", "ann", 0), ("thing", "c", 0)])
        # The values of the first look fit the later ones again if all is told with them.
        record = with_touch(record, 0, 2, arguments=(8,))
        self.assertEqual(self.faults(record), [("thing", "c", 0)])

    def test_the_slice_of_a_life_alone(self):
        # ann holds one longer than its block says: nobody else can tell.
        record = true_record(("ann", "bob", "bob.1", "dan"))
        at = len(record[0][3]) - 1
        self.assertEqual(record[0][3][at][3:5], ("hold", (2, 0)))
        self.assertEqual(self.faults(with_touch(record, 0, at, arguments=(3, 0))), [("life", "ann", 0)])

    def test_touches_left_out_put_in_and_exchanged(self):
        record = true_record()
        touches = record[4][3]
        for found in (touches[:-1], touches[:1] + touches[2:], touches + touches[-1:], touches[:2] + touches[1:], (),
                      touches[1:2] + touches[:1] + touches[2:]):
            self.assertIn(("life", "ann", 4), self.faults(with_happening(record, 4, touches=found)))

    def test_answers_that_do_not_fit(self):
        record = true_record()
        for place, at, answers in (
            (0, 0, (2, -1, None, "ann", ())), (0, 1, (10 ** 9, -10 ** 9, (), ("ann",))), (0, 2, (0, 1, "ann", ())),
            (3, 1, (2, None, "ann", ("dan",))), (6, 1, (None, 0, "ann", (1,), (None,), ("ann", 2))),
            (3, 3, (-1, 2, None)),
        ):
            for answer in answers:
                found = self.faults(with_touch(record, place, at, answer=answer))
                self.assertIn(("life", record[place][0], place), found, (place, at, answer))

    ASKER = read_program("""cell c = 0; line q; store s = 2; gate g open; wheel w = 3; mark m = 5; class e() { }
    class k() { var v = 0; life { if length(q) { } if first(q) { } if spare(s) { } if waiting(s) { } if isopen(g) { } if waiting(g) { }
    if stand(bob) { } if c { } if me.m { } take v from w; take v from q; wake bob; wake bob after 2; stop bob; set c = 0; shut g; tell hi();
    open g; sleep; } } start ann = k(); start bob = e() asleep;""")
    FITTING = {
        "length": (0, 1, 999999999), "first": (None, -999999999, 999999999, "bob", "zoe"), "spare": (0, 999999999),
        "waiting": (0, 999999999), "isopen": (0, 1), "stand": (0, 6), "look": (None, -999999999, 999999999, "", "none"),
        "take": (None, 0, "ann"), "wake": (0, 1), "stop": (0, 1), "set": (None,), "shut": (None,), "tell": (0, 1),
        "sleep": (0, 1),
    }
    ANY = (-1, -2, 2, 7, 10 ** 9, -10 ** 9, 10 ** 9 - 1, 1 - 10 ** 9, 0, 1, None, "ann", (), ("ann",), ("ann", 1),
           (None,))

    def test_all_fitting_answers(self):
        """What this life asks depends on no answer but that of open, so the slice fails only by answers that do not fit."""
        record = record_of(follow(start_world(self.ASKER), ["ann"])[1])
        self.assertEqual(self.faults(record, self.ASKER), [])
        for at, told in enumerate(record[0][3]):
            if told[3] in ("run", "open"):
                continue
            right = self.FITTING[told[3]]
            for answer in right + self.ANY:
                found = self.faults(with_touch(record, 0, at, answer=answer), self.ASKER)
                self.assertEqual(("life", "ann", 0) not in found, fitting(told[3], answer), (told, answer))
                if answer in right:
                    self.assertNotIn(("life", "ann", 0), found)
                self.assertEqual(("thing", told[0], 0) in found, answer != told[5])

    def test_an_answer_for_another_deed(self):
        # The touch is one that the life does not ask for; its answer would be none for what it asks.
        record = with_touch(true_record(), 6, 1, deed="look", arguments=(), answer=17)
        self.assertEqual(self.faults(record), [("life", "dan", 6), ("thing", "s", 6)])
        record = with_touch(true_record(), 6, 1, deed="zzz", answer=17)
        self.assertEqual(self.faults(record), [("life", "dan", 6), ("thing", "s", 6)])

    def test_a_run_that_was_refused(self):
        record = true_record(("ann",)) + (("ann", 0, 0, (("ann", 2, "look", "run", (0, 0), 0),)),)
        self.assertEqual(self.faults(record), [("life", "ann", 1)])
        record = (("ann", 0, 0, (("ann", 1, "change", "run", (0, 0), 1),)),)
        self.assertEqual(self.faults(record), [("life", "ann", 0)])

    def test_a_life_that_is_not_born_yet(self):
        record = true_record()
        self.assertEqual(self.faults(record[:1] + record[2:3] + record[1:2])[0], ("life", "bob.1", 1))

    def test_a_class_that_the_program_does_not_have(self):
        record = true_record(("ann", "bob", "bob.1"))
        at = [told[3] for told in record[1][3]].index("born")
        for name in ("zoe", "c", "ann", "k.1"):
            found = self.faults(with_touch(record, 1, at, arguments=(name, 4)))
            self.assertEqual(found, [("life", "bob", 1), ("life", "bob.1", 2)])

    def test_a_wrong_number_of_values(self):
        record = true_record(("ann", "bob", "bob.1"))
        at = [told[3] for told in record[1][3]].index("born")
        for values in ((), (4, 4), (4, None, "ann")):
            found = self.faults(with_touch(record, 1, at, arguments=("k",) + values))
            self.assertEqual(found, [("life", "bob", 1), ("life", "bob.1", 2)])
        self.assertEqual(self.faults(with_touch(record, 1, at, arguments=())),
                         [("life", "bob", 1), ("life", "bob.1", 2), ("thing", "bob.1", 1)])
        self.assertEqual(self.faults(with_touch(record, 1, at, arguments=(4, 4))),
                         [("life", "bob", 1), ("life", "bob.1", 2), ("thing", "bob.1", 1)])
        # Another value is right for the class, but not what bob asks and what bob.1 does.
        self.assertEqual(self.faults(with_touch(record, 1, at, arguments=("k", 9))),
                         [("life", "bob", 1), ("life", "bob.1", 2)])

    def test_a_birth_with_another_answer(self):
        record = true_record(("ann", "bob", "bob.1"))
        at = [told[3] for told in record[1][3]].index("born")
        self.assertEqual(self.faults(with_touch(record, 1, at, answer=0)),
                         [("life", "bob.1", 2), ("thing", "bob.1", 1)])

    def test_two_births_of_one_life(self):
        born = ("zoe", 1, "change", "born", ("e",), 1)
        again = ("zoe", 1, "look", "born", ("k", 4), 1)
        ran = ("zoe", 2, "change", "wake", (0, 0), 1)
        end = (("zoe", 3, "change", "run", (0, 0), 1), ("zoe", 4, "change", "end", (), 1))
        both = (("ann", 0, 0, (born,)), ("bob", 0, 0, (again, ran)), ("zoe", 0, 0, end))
        self.assertEqual(self.faults(both), [("life", "ann", 0), ("life", "bob", 1), ("thing", "zoe", 1)])
        # The first one counts: if it is of class k, zoe has other askings.
        other = (("ann", 0, 0, (born[:4] + (("k", 4), 1),)), ("bob", 0, 0, (again[:4] + (("e",), 1), ran)),
                 ("zoe", 0, 0, end))
        self.assertEqual(self.faults(other), [("life", "ann", 0), ("life", "bob", 1), ("life", "zoe", 2),
                                              ("thing", "zoe", 1)])
        # One with another answer does not count.
        other = (("ann", 0, 0, (born[:4] + (("k", 4), 0),)), ("bob", 0, 0, (again[:4] + (("e",), 1), ran)),
                 ("zoe", 0, 0, end))
        self.assertEqual(self.faults(other), [("life", "ann", 0), ("life", "bob", 1), ("thing", "zoe", 0)])
        # A birth in the life's own happening, or behind it, comes too late.
        self.assertIn(("life", "zoe", 0), self.faults((("zoe", 0, 0, (born, ran) + end),)))
        self.assertIn(("life", "zoe", 0), self.faults((("zoe", 0, 0, end), ("ann", 0, 0, (born,)), ("zoe", 0, 0, end))))

    def test_another_deed_is_no_birth(self):
        other = ("zoe", 0, "look", "wake", (0, 0), 1)
        born = (("zoe", 1, "change", "born", ("e",), 1), ("zoe", 2, "change", "wake", (0, 0), 1))
        end = (("zoe", 3, "change", "run", (0, 0), 1), ("zoe", 4, "change", "end", (), 1))
        record = (("ann", 0, 0, (other,)), ("bob", 0, 0, born), ("zoe", 0, 0, end))
        self.assertEqual(self.faults(record), [("life", "ann", 0), ("life", "bob", 1), ("thing", "zoe", 0)])
        self.assertIn(("life", "zoe", 1), self.faults((("ann", 0, 0, (other,)), ("zoe", 0, 0, end))))

    def test_a_birth_of_a_life_that_a_start_item_names(self):
        record = true_record(("ann", "bob"))
        born = ("bob", 0, "look", "born", ("e",), 1)
        record = with_happening(record, 0, touches=record[0][3] + (born,))
        self.assertEqual(self.faults(record), [("life", "ann", 0), ("thing", "bob", 0)])

    def test_a_life_behind_its_end(self):
        record = true_record(("ann", "bob", "dan", "bob.1", "ann"))
        more = ("ann", 2, 0, (("ann", 6, "look", "run", (2, 0), 1), ("ann", 6, "look", "end", (), 0)))
        self.assertEqual(self.faults(record + (more,)), [("thing", "ann", 5)])


class ThingSliceTest(FaultsCase):
    def test_modes_and_numbers(self):
        record = true_record()
        self.assertEqual(self.faults(with_touch(record, 0, 1, mode="change")), [("thing", "c", 0)])
        self.assertEqual(self.faults(with_touch(record, 0, 2, mode="look")), [("thing", "c", 0)])
        self.assertEqual(self.faults(with_touch(record, 4, 1, number=9)), [("thing", "c", 4)])
        self.assertEqual(self.faults(with_touch(record, 7, 1, number=1)), [("thing", "eve", 7)])
        self.assertEqual(self.faults(with_touch(record, 7, 0, number=0)), [("thing", "eve", 7)])

    def test_each_kind(self):
        record = true_record()
        for place, row in enumerate(record):
            for at, told in enumerate(row[3]):
                found = self.faults(with_touch(record, place, at, number=told[1] + 1))
                self.assertEqual(found, [("thing", told[0], place)])

    def test_a_touch_that_does_not_fit(self):
        record = true_record()
        self.assertEqual(self.faults(with_touch(record, 0, 1, arguments=(1,))), [("life", "ann", 0), ("thing", "c", 0)])
        self.assertEqual(self.faults(with_touch(record, 3, 1, arguments=(0,))), [("life", "dan", 3), ("thing", "s", 3)])
        self.assertEqual(self.faults(with_touch(record, 3, 1, arguments=(10 ** 9,))),
                         [("life", "dan", 3), ("thing", "s", 3)])
        self.assertEqual(self.faults(with_touch(record, 3, 1, deed="put")), [("life", "dan", 3), ("thing", "s", 3)])

    def test_marks(self):
        for mark, right in (("ann:m", True), ("zoe:m", True), ("a:b:m", True), (":m", True), ("c:m", True),
                            ("ann:n", False), ("ann:c", False),
                            ("ann:k", False), ("ann:m:", False), ("ann:m.", False), (":", False), ("m:ann", False)):
            record = (("ann", 0, 0, ((mark, 0, "look", "look", (), 5), (mark, 1, "change", "set", (None,), None),
                                     (mark, 1, "look", "look", (), None))),)
            found = [("life", "ann", 0)] + ([] if right else [("thing", mark, 0)])
            self.assertEqual(self.faults(record), found)

    def test_a_missing_mark_fails_at_its_first_touch(self):
        look = ("ann:n", 0, "look", "look", (), 5)
        record = (("ann", 0, 0, ()), ("bob", 0, 0, (look,)), ("cat", 0, 0, (look,)))
        self.assertIn(("thing", "ann:n", 1), self.faults(record))

    def test_names_that_are_stands(self):
        # Names of classes and marks, and names that nothing has, are stands that are unborn at the start.
        for name in ("k", "m", "zoe", "ann.7", "a.b", "none"):
            for answer in (0, 1):
                record = (("ann", 0, 0, ((name, 0, "look", "stand", (), answer),)),)
                self.assertEqual(self.faults(record), [("life", "ann", 0)] + [("thing", name, 0)] * answer)
            record = (("ann", 0, 0, ((name, 1, "change", "born", ("e",), 1), (name, 2, "change", "wake", (4, 0), 1))),)
            self.assertEqual(self.faults(record), [("life", "ann", 0)])
        for name, state in (("ann", 2), ("cat", 1), ("eve", 2)):
            record = (("ann", 0, 0, ((name, 0, "look", "stand", (), state), ("c", 0, "look", "look", (), 0))),)
            self.assertEqual(self.faults(record), [("life", "ann", 0)])

    def test_the_life_that_does_it(self):
        # Units that are freed by a life that does not hold them.
        record = true_record(("ann", "dan"))
        touches = record[1][3]
        record = record[:1] + (("dan", 0, 0, touches[:2]), ("bob", 0, 0, (("s", 2, "change", "free", (1,), ()),)))
        self.assertEqual(self.faults(record), [("life", "bob", 2), ("life", "dan", 1), ("thing", "s", 2)])
        record = record[:2] + (("dan", 0, 0, (("s", 2, "change", "free", (1,), ()),)),)
        self.assertEqual(self.faults(record), [("life", "dan", 1)])


class MomentSliceTest(FaultsCase):
    def test_moments_that_go_back(self):
        record = true_record()
        found = self.faults(with_happening(record, 6, time=1))
        self.assertEqual(found, [("life", "dan", 6), ("moments", "", 6)])
        found = self.faults(with_happening(record, 7, time=2, stage=4))
        self.assertEqual(found, [("life", "eve", 7), ("moments", "", 7)])

    def test_the_place_of_the_first_moment(self):
        record = true_record(("ann",))
        self.assertEqual(self.faults(with_happening(record, 0, time=-1)), [("life", "ann", 0), ("moments", "", 0)])
        self.assertEqual(self.faults(with_happening(record, 0, stage=-1)), [("life", "ann", 0), ("moments", "", 0)])
        self.assertEqual(self.faults(with_happening(record, 0, time=-1, stage=5)),
                         [("life", "ann", 0), ("moments", "", 0)])

    def test_stands_that_are_due_before(self):
        # eve runs at time 9, where ann, bob and dan were due before.
        eve = true_record()[7]
        self.assertEqual(self.faults((eve,)), [("moments", "", 0)])
        record = true_record()
        self.assertEqual(self.faults(record[:6] + record[7:]), [("moments", "", 6)])
        self.assertEqual(self.faults(record[:4] + record[6:]), [("moments", "", 4)])

    def test_the_moments_alone(self):
        program = read_program("class k() { life { hold 1; } } start ann = k(); start bob = k() at 2;")
        record = record_of(run(start_world(program)).happenings)
        self.assertEqual([row[:2] for row in record], [("ann", 0), ("ann", 1), ("bob", 2), ("bob", 3)])
        self.assertEqual(self.faults(record[:1] + record[2:], program), [("moments", "", 1)])
        self.assertEqual(self.faults(record[2:], program), [("moments", "", 0)])

    def test_a_stand_by_its_touches_whatever_answers_they_have(self):
        wake = ("cat", 1, "change", "wake", (3, 0), 0)
        record = (("ann", 0, 0, (wake,)), ("bob", 4, 0, ()))
        self.assertIn(("moments", "", 1), self.faults(record))
        program = read_program("class k() { } start cat = k() asleep;")
        record = (("cat", 0, 0, (wake,)), ("cat", 4, 0, ()))
        self.assertEqual(self.faults(record, program), [("life", "cat", 0), ("moments", "", 1), ("thing", "cat", 0)])
        record = (("cat", 0, 0, (wake,)), ("cat", 3, 0, ()))
        self.assertEqual(self.faults(record, program), [("life", "cat", 0), ("thing", "cat", 0)])

    def test_a_touch_that_does_not_fit_leaves_the_stand(self):
        program = read_program("class k() { } start cat = k() asleep;")
        for deed, arguments in (("wake", (3,)), ("wake", (-1, 0)), ("wake", (3, None)), ("walk", (3, 0)),
                                ("set", (3,))):
            record = (("cat", 0, 0, (("cat", 1, "change", deed, arguments, 1),)), ("cat", 4, 0, ()))
            self.assertEqual(self.faults(record, program), [("life", "cat", 0), ("thing", "cat", 0)])

    def test_stands_of_lives_that_nothing_names(self):
        program = read_program("cell c = 0; class k() { } start cat = k() asleep;")
        born = ("zoe", 1, "change", "born", ("k",), 1)
        record = (("cat", 0, 0, (born, ("zoe", 2, "change", "wake", (3, 0), 1))), ("cat", 4, 0, ()))
        self.assertEqual(self.faults(record, program), [("life", "cat", 0), ("moments", "", 1)])
        # A thing that is no stand is not due.
        record = (("cat", 0, 0, (("c", 1, "change", "born", ("k",), 1), ("c", 2, "change", "wake", (3, 0), 1))),
                  ("cat", 4, 0, ()))
        self.assertEqual(self.faults(record, program), [("life", "cat", 0), ("thing", "c", 0)])

    def test_the_first_place_alone(self):
        program = read_program("class k() { } start cat = k() asleep;")
        record = (("cat", 5, 0, ()), ("cat", 4, 0, ()), ("cat", 3, 0, ()))
        self.assertEqual(self.faults(record, program), [("life", "cat", 0), ("moments", "", 1)])


class SeveralSlicesTest(FaultsCase):
    def test_all_kinds_in_ascending_order(self):
        record = true_record()
        record = with_touch(record, 7, 0, number=5)
        record = with_touch(with_happening(with_happening(record, 0, life="bob"), 6, time=1), 3, 1, answer=0)
        found = self.faults(record)
        self.assertEqual(found, sorted(found))
        self.assertEqual({row[0] for row in found}, {"life", "moments", "thing"})
        self.assertEqual(len(found), len({row[:2] for row in found}))

    def test_first_middle_and_last_happening(self):
        record = true_record()
        for place in range(len(record)):
            found = self.faults(with_touch(record, place, 0, number=99))
            self.assertEqual(found, [("thing", record[place][0], place)])
            found = self.faults(with_touch(record, place, 0, answer=0))
            self.assertIn(("life", record[place][0], place), found)

    def test_random_changes(self):
        seen = {}
        for seed in range(400):
            chance = random.Random(seed)
            text = calm_program_text(chance) if seed % 2 else crowd_text(chance, 4, 0.8)
            program = read_program(text)
            record = random_record(chance, program, 12)
            for _ in range(chance.randint(1, 3)):
                record = change_record(chance, record)
            for kind in {row[0] for row in self.faults(record, program)} or {"none"}:
                seen[kind] = seen.get(kind, 0) + 1
            text = write_record(record)
            if refusal(read_record, text) is None:
                self.assertEqual(read_record(text), record)
        for kind in ("life", "thing", "moments", "none"):
            self.assertGreater(seen[kind], 5)


def random_record(chance, program, most):
    """The record of an advancing course."""
    world, happenings = start_world(program), []
    for _ in range(most):
        if world.coming() is not None:
            world = advance(world)
            world, happening = happen(world, chance.choice(world.due()))
            happenings.append(happening)
    return record_of(happenings)


def change_record(chance, record):
    """A record with one happening or touch changed, left out, put twice or exchanged."""
    if not record:
        return record
    place = chance.randrange(len(record))
    life, time, stage, touches = record[place]
    change = chance.choice(("cut", "twice", "swap", "life", "time", "stage", "touch", "touch", "touch", "touch", "one",
                            "none"))
    if change == "cut":
        return record[:place] + record[place + 1:]
    if change == "twice":
        return record[:place + 1] + record[place:]
    if change == "swap":
        other = chance.randrange(len(record))
        rows = list(record)
        rows[place], rows[other] = rows[other], rows[place]
        return tuple(rows)
    if change in ("life", "time", "stage"):
        parts = {"life": chance.choice(("ann", "bob", "zoe", "ann.1")), "time": time + chance.choice((-1, 1)),
                 "stage": stage + chance.choice((-1, 1))}
        return with_happening(record, place, **{change: parts[change]})
    if not touches or change == "none":
        return record
    at = chance.randrange(len(touches))
    if change == "one":
        return with_happening(record, place, touches=touches[:at] + touches[at + chance.choice((1, 2)):])
    value = chance.choice((0, 1, 2, None, "ann", "bob", -1, 9))
    parts = {"thing": chance.choice(("ann", "bob", "cboth", "num", "both", "zoe", "ann:m", "ann:x")),
             "number": chance.randint(0, 5),
             "mode": chance.choice(("look", "change")), "deed": chance.choice(("look", "set", "run", "born", "free",
                                                                               "wake", "zzz")),
             "arguments": chance.choice(((), (value,), (0, 0), ("kann",))),
             "answer": chance.choice((value, (), ("ann",)))}
    word = chance.choice(list(parts))
    return with_touch(record, place, at, **{word: parts[word]})


if __name__ == "__main__":
    unittest.main()
