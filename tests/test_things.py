import random
import unittest

from tests.texts import refusal
from wokenlives.reading import read_tree
from wokenlives.things import do_deed, fits, start_state, touch

MOST = 999999999

KNOWN = {
    "cell": ("look", "set"),
    "mark": ("look", "set"),
    "line": ("put", "take", "length", "first"),
    "store": ("seize", "free", "spare", "waiting"),
    "gate": ("wait", "open", "shut", "isopen", "waiting"),
    "wheel": ("take",),
    "stand": ("born", "run", "tell", "sleep", "hold", "waits", "end", "fall", "wake", "stop", "grant", "stand"),
}
VALUE_DEEDS = (("cell", "set"), ("mark", "set"), ("line", "put"))
UNIT_DEEDS = (("store", "seize"), ("store", "free"))
MOMENT_DEEDS = tuple([("stand", deed) for deed in ("run", "hold", "wake", "grant")])
WORD_DEEDS = (("stand", "waits"), ("stand", "fall"))
ROW_DEEDS = (("stand", "born"), ("stand", "tell"))
WITH_ARGUMENTS = VALUE_DEEDS + UNIT_DEEDS + MOMENT_DEEDS + WORD_DEEDS + ROW_DEEDS


class StartTest(unittest.TestCase):
    def test_start_states(self):
        text = "cell c = -3; line l; store s = 4; gate g open; gate h shut; wheel w = 5; mark m = 2; " \
               "start a = k(); start b = k() at 8; start d = k(1) asleep;"
        self.assertEqual([start_state(item) for item in read_tree(text)], [
            -3, (), (4, 4, (), ()), (1, ()), (0, ()), (5, 0), 2, ("due", 0, 0), ("due", 8, 0), ("asleep",),
        ])


class FitsTest(unittest.TestCase):
    def test_each_deed_is_known_to_its_kinds_alone(self):
        every = sorted({deed for deeds in KNOWN.values() for deed in deeds} | {"", "count", "seize", "inner"})
        for kind, deeds in KNOWN.items():
            for deed in every:
                fitting = any([fits(kind, deed, arguments) for arguments in ((), (1,), ("a",), (1, 1))])
                self.assertEqual(fitting, deed in deeds, (kind, deed))

    def test_deeds_without_arguments(self):
        for kind, deeds in KNOWN.items():
            for deed in deeds:
                if (kind, deed) not in WITH_ARGUMENTS:
                    self.assertIs(fits(kind, deed, ()), True, (kind, deed))
                    for arguments in ((1,), (None,), ("ann",), (1, 1)):
                        self.assertIs(fits(kind, deed, arguments), False, (kind, deed))

    def test_values(self):
        for kind, deed in VALUE_DEEDS:
            for value in (0, 1, -1, MOST, -MOST, None, "ann", ""):
                self.assertIs(fits(kind, deed, (value,)), True, value)
            for arguments in ((), (1, 1), (MOST + 1,), (-MOST - 1,), ((1,),), (True,)):
                self.assertIs(fits(kind, deed, arguments), False, arguments)

    def test_units(self):
        for kind, deed in UNIT_DEEDS:
            for value in (1, 2, MOST):
                self.assertIs(fits(kind, deed, (value,)), True, value)
            for arguments in ((), (1, 1), (0,), (-1,), (MOST + 1,), (None,), ("ann",)):
                self.assertIs(fits(kind, deed, arguments), False, arguments)

    def test_moments(self):
        for kind, deed in MOMENT_DEEDS:
            for arguments in ((0, 0), (MOST, 0), (0, MOST), (0, MOST + 1), (3, 10 ** 40)):
                self.assertIs(fits(kind, deed, arguments), True, arguments)
            for arguments in ((), (1,), (1, 1, 1), (-1, 0), (0, -1), (MOST + 1, 0), (None, 0), (0, None), ("a", 0), (0, "a")):
                self.assertIs(fits(kind, deed, arguments), False, arguments)

    def test_words(self):
        for kind, deed in WORD_DEEDS:
            for arguments in (("s",), ("",), ("no such",)):
                self.assertIs(fits(kind, deed, arguments), True, arguments)
            for arguments in ((), (1,), (None,), ("s", "s"), ("s", 1)):
                self.assertIs(fits(kind, deed, arguments), False, arguments)

    def test_a_word_and_values(self):
        for kind, deed in ROW_DEEDS:
            for arguments in (("c",), ("c", 1), ("", None, "ann", -MOST), ("c",) + (0,) * 30):
                self.assertIs(fits(kind, deed, arguments), True, arguments)
            for arguments in ((), (1,), (None, "c"), (1, 1), ("c", MOST + 1), ("c", 1, ())):
                self.assertIs(fits(kind, deed, arguments), False, arguments)

    def test_what_does_not_fit_is_refused(self):
        for kind, state, deed, arguments in (
            ("cell", 1, "put", (1,)), ("cell", 1, "set", ()), ("cell", 1, "look", (1,)), ("mark", 1, "set", (MOST + 1,)),
            ("line", (), "seize", (1,)), ("store", (1, 1, (), ()), "seize", (0,)), ("gate", (1, ()), "wait", (1,)),
            ("wheel", (2, 0), "put", (1,)), ("stand", ("asleep",), "wake", (1,)), ("stand", ("asleep",), "look", ()),
            ("stand", ("running",), "hold", (MOST + 1, 0)),
        ):
            self.assertEqual(refusal(do_deed, kind, state, "ann", deed, arguments), ("BadDeed", kind, deed))
            self.assertEqual(refusal(touch, "t", kind, state, 0, "ann", deed, arguments), ("BadDeed", kind, deed))


class CellsTest(unittest.TestCase):
    def test_look_and_set(self):
        for kind in ("cell", "mark"):
            for state in (3, None, "ann"):
                self.assertEqual(do_deed(kind, state, "bob", "look", ()), (state, state))
                for value in (4, 0, None, "cat"):
                    self.assertEqual(do_deed(kind, state, "bob", "set", (value,)), (value, None))


class LinesTest(unittest.TestCase):
    def test_put_and_take(self):
        self.assertEqual(do_deed("line", (), "ann", "put", (None,)), ((None,), 1))
        self.assertEqual(do_deed("line", (4, "bob"), "ann", "put", (0,)), ((4, "bob", 0), 1))
        self.assertEqual(do_deed("line", (4, "bob"), "ann", "take", ()), (("bob",), 4))
        self.assertEqual(do_deed("line", (None, 1), "ann", "take", ()), ((1,), None))
        self.assertEqual(do_deed("line", (), "ann", "take", ()), ((), None))

    def test_length_and_first(self):
        self.assertEqual(do_deed("line", (), "ann", "length", ()), ((), 0))
        self.assertEqual(do_deed("line", (4, 5), "ann", "length", ()), ((4, 5), 2))
        self.assertEqual(do_deed("line", (), "ann", "first", ()), ((), None))
        self.assertEqual(do_deed("line", (4, 5), "ann", "first", ()), ((4, 5), 4))

    def test_a_full_line(self):
        nearly = tuple(range(19))
        full = nearly + ("ann",)
        self.assertEqual(do_deed("line", nearly, "ann", "put", ("ann",)), (full, 1))
        self.assertEqual(do_deed("line", full, "ann", "put", (1,)), (full, 0))
        self.assertEqual(do_deed("line", full + (2,), "ann", "put", (1,)), (full + (2,), 0))
        self.assertEqual(do_deed("line", full, "ann", "length", ()), (full, 20))


class StoresTest(unittest.TestCase):
    def test_seize(self):
        state = (5, 5, (), ())
        state, answer = do_deed("store", state, "bob", "seize", (2,))
        self.assertEqual((state, answer), ((5, 3, (("bob", 2),), ()), 1))
        state, answer = do_deed("store", state, "ann", "seize", (1,))
        self.assertEqual((state, answer), ((5, 2, (("ann", 1), ("bob", 2)), ()), 1))
        state, answer = do_deed("store", state, "bob", "seize", (2,))
        self.assertEqual((state, answer), ((5, 0, (("ann", 1), ("bob", 4)), ()), 1))

    def test_seize_more_than_is_free(self):
        state = (5, 2, (("ann", 3),), ())
        self.assertEqual(do_deed("store", state, "bob", "seize", (3,)), ((5, 2, (("ann", 3),), (("bob", 3),)), 0))

    def test_seize_while_somebody_waits(self):
        state = (5, 2, (("ann", 3),), (("bob", 3),))
        after = (5, 2, (("ann", 3),), (("bob", 3), ("ann", 1)))
        self.assertEqual(do_deed("store", state, "ann", "seize", (1,)), (after, 0))

    def test_the_example(self):
        state = (2, 0, (("ann", 2),), (("bob", 1), ("cat", 2)))
        self.assertEqual(do_deed("store", state, "ann", "free", (1,)),
                         ((2, 0, (("ann", 1), ("bob", 1)), (("cat", 2),)), ("bob",)))

    def test_free(self):
        state = (3, 0, (("ann", 2), ("bob", 1)), ())
        self.assertEqual(do_deed("store", state, "ann", "free", (1,)), ((3, 1, (("ann", 1), ("bob", 1)), ()), ()))
        self.assertEqual(do_deed("store", state, "ann", "free", (2,)), ((3, 2, (("bob", 1),), ()), ()))

    def test_freeing_more_than_is_held(self):
        state = (3, 0, (("ann", 2), ("bob", 1)), (("cat", 1),))
        for life, units in (("ann", 3), ("bob", 2), ("cat", 1), ("dan", 1)):
            self.assertEqual(do_deed("store", state, life, "free", (units,)), (state, None))

    def test_the_next_one_waits_while_the_units_do_not_suffice(self):
        state = (6, 0, (("ann", 6),), (("bob", 2), ("cat", 3), ("dan", 1)))
        for units, after, answer in (
            (1, (6, 1, (("ann", 5),), (("bob", 2), ("cat", 3), ("dan", 1))), ()),
            (2, (6, 0, (("ann", 4), ("bob", 2)), (("cat", 3), ("dan", 1))), ("bob",)),
            (4, (6, 2, (("ann", 2), ("bob", 2)), (("cat", 3), ("dan", 1))), ("bob",)),
            (5, (6, 0, (("ann", 1), ("bob", 2), ("cat", 3)), (("dan", 1),)), ("bob", "cat")),
            (6, (6, 0, (("bob", 2), ("cat", 3), ("dan", 1)), ()), ("bob", "cat", "dan")),
        ):
            self.assertEqual(do_deed("store", state, "ann", "free", (units,)), (after, answer))

    def test_units_are_added_to_those_that_are_held(self):
        state = (4, 0, (("ann", 2), ("bob", 2)), (("bob", 1), ("ann", 1)))
        self.assertEqual(do_deed("store", state, "ann", "free", (2,)),
                         ((4, 0, (("ann", 1), ("bob", 3)), ()), ("bob", "ann")))

    def test_spare_and_waiting(self):
        state = (6, 1, (("ann", 5),), (("bob", 2), ("cat", 3)))
        self.assertEqual(do_deed("store", state, "dan", "spare", ()), (state, 1))
        self.assertEqual(do_deed("store", state, "dan", "waiting", ()), (state, 2))

    def test_free_and_held_units_are_always_the_size(self):
        chance = random.Random(4)
        state = (5, 5, (), ())
        for _ in range(400):
            life = chance.choice(("ann", "bob", "cat", "dan"))
            deed = chance.choice(("seize", "free"))
            if [row for row in state[3] if row[0] == life]:
                continue
            state, _ = do_deed("store", state, life, deed, (chance.randint(1, 5),))
            size, spare, holders, waiting = state
            self.assertEqual((size, spare + sum([units for _, units in holders])), (5, 5))
            self.assertEqual(list(holders), sorted(holders))
            self.assertTrue(all([units > 0 for _, units in holders]))
            self.assertTrue(waiting == () or waiting[0][1] > spare)


class GatesTest(unittest.TestCase):
    def test_an_open_gate(self):
        self.assertEqual(do_deed("gate", (1, ()), "ann", "wait", ()), ((1, ()), 1))
        self.assertEqual(do_deed("gate", (1, ()), "ann", "isopen", ()), ((1, ()), 1))
        self.assertEqual(do_deed("gate", (1, ()), "ann", "open", ()), ((1, ()), ()))
        self.assertEqual(do_deed("gate", (1, ()), "ann", "shut", ()), ((0, ()), None))

    def test_a_shut_gate(self):
        self.assertEqual(do_deed("gate", (0, ("bob",)), "ann", "wait", ()), ((0, ("bob", "ann")), 0))
        self.assertEqual(do_deed("gate", (0, ("bob",)), "ann", "isopen", ()), ((0, ("bob",)), 0))
        self.assertEqual(do_deed("gate", (0, ("bob", "ann")), "ann", "open", ()), ((1, ()), ("bob", "ann")))
        self.assertEqual(do_deed("gate", (0, ("bob",)), "ann", "shut", ()), ((0, ("bob",)), None))
        self.assertEqual(do_deed("gate", (0, ("bob", "ann")), "cat", "waiting", ()), ((0, ("bob", "ann")), 2))


class WheelsTest(unittest.TestCase):
    def test_the_last_place(self):
        self.assertEqual(do_deed("wheel", (3, 0), "ann", "take", ()), ((3, 1), 0))
        self.assertEqual(do_deed("wheel", (3, 1), "ann", "take", ()), ((3, 2), 1))
        self.assertEqual(do_deed("wheel", (3, 2), "ann", "take", ()), ((3, 0), 2))
        self.assertEqual(do_deed("wheel", (1, 0), "ann", "take", ()), ((1, 0), 0))


class StandsTest(unittest.TestCase):
    STATES = (("unborn",), ("asleep",), ("due", 4, 1), ("running",), ("waits", "s"), ("ended",), ("fallen", "big"))
    DEEDS = (
        (("born", ("c", 1)), ("unborn",), ("asleep",)),
        (("run", (4, 1)), ("due", 4, 1), ("running",)),
        (("tell", ("w", None)), ("running",), ("running",)),
        (("sleep", ()), ("running",), ("asleep",)),
        (("hold", (7, 0)), ("running",), ("due", 7, 0)),
        (("waits", ("g",)), ("running",), ("waits", "g")),
        (("end", ()), ("running",), ("ended",)),
        (("fall", ("zero",)), ("running",), ("fallen", "zero")),
        (("wake", (4, 10 ** 12)), ("asleep",), ("due", 4, 10 ** 12)),
        (("stop", ()), ("due", 4, 1), ("asleep",)),
        (("grant", (4, 2)), ("waits", "s"), ("due", 4, 2)),
    )

    def test_each_deed_at_each_state(self):
        for (deed, arguments), asked, left in self.DEEDS:
            for state in self.STATES:
                wanted = (left, 1) if state == asked else (state, 0)
                self.assertEqual(do_deed("stand", state, "ann", deed, arguments), wanted, (deed, state))

    def test_run_asks_for_this_very_moment(self):
        for moment in ((4, 0), (4, 2), (3, 1), (5, 1)):
            self.assertEqual(do_deed("stand", ("due", 4, 1), "ann", "run", moment), (("due", 4, 1), 0))

    def test_stop_takes_any_moment(self):
        self.assertEqual(do_deed("stand", ("due", 0, 0), "ann", "stop", ()), (("asleep",), 1))

    def test_stand(self):
        for number, state in enumerate(self.STATES):
            self.assertEqual(do_deed("stand", state, "ann", "stand", ()), (state, number))


class TouchTest(unittest.TestCase):
    def test_a_change(self):
        self.assertEqual(touch("c", "cell", 3, 7, "ann", "set", (4,)), (("c", 8, "change", "set", (4,), None), 4))
        self.assertEqual(touch("w", "wheel", (2, 1), 0, "ann", "take", ()), (("w", 1, "change", "take", (), 1), (2, 0)))

    def test_a_look(self):
        self.assertEqual(touch("c", "cell", 3, 7, "ann", "look", ()), (("c", 7, "look", "look", (), 3), 3))

    def test_a_set_of_the_same_value_is_a_look(self):
        self.assertEqual(touch("c", "cell", 3, 7, "ann", "set", (3,)), (("c", 7, "look", "set", (3,), None), 3))
        self.assertEqual(touch("w", "wheel", (1, 0), 7, "ann", "take", ()), (("w", 7, "look", "take", (), 0), (1, 0)))
        running = ("running",)
        self.assertEqual(touch("ann", "stand", running, 2, "ann", "tell", ("w",)),
                         (("ann", 2, "look", "tell", ("w",), 1), running))

    def test_0_and_none_are_not_the_same(self):
        self.assertEqual(touch("c", "cell", 0, 0, "ann", "set", (None,)), (("c", 1, "change", "set", (None,), None), None))

    def test_a_deed_that_has_no_effect_is_a_look(self):
        state = (1, 0, (("ann", 1),), ())
        self.assertEqual(touch("s", "store", state, 5, "bob", "free", (1,)),
                         (("s", 5, "look", "free", (1,), None), state))
        self.assertEqual(touch("ann", "stand", ("asleep",), 5, "bob", "stop", ()),
                         (("ann", 5, "look", "stop", (), 0), ("asleep",)))


if __name__ == "__main__":
    unittest.main()
