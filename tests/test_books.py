import random
import unittest

from tests.texts import refusal
from wokenlives.books import ordered_rows, replay_rows
from wokenlives.things import touch


def made_rows(kind, state, number, deeds):
    """The rows of deeds (life, deed, arguments) done one after the other, and the last state."""
    rows = []
    for at, (life, deed, arguments) in enumerate(deeds):
        found, state = touch("t", kind, state, number, life, deed, arguments)
        number = found[1]
        rows.append((number, found[2], life, at, 0, deed, arguments, found[5]))
    return rows, state


class OrderTest(unittest.TestCase):
    def test_looks_and_a_change_under_one_number(self):
        first = (0, "look", "cat", 0, 0, "look", (), 1)
        change = (1, "change", "cat", 0, 0, "set", (2,), None)
        bob = (1, "look", "bob", 3, 0, "look", (), 2)
        again = (1, "look", "bob", 1, 0, "set", (2,), None)
        ann = (1, "look", "ann", 4, 0, "look", (), 2)
        last = (2, "change", "ann", 5, 0, "set", (3,), None)
        made = [first, change, bob, again, ann, last]
        self.assertEqual(ordered_rows(made), [first, change, ann, bob, again, last])
        self.assertEqual(ordered_rows([bob, last, again, change, ann, first]),
                         [first, change, ann, bob, again, last])

    def test_numbers_come_first(self):
        rows = [(10, "change", "a", 0, 0, "set", (1,), None), (9, "look", "z", 0, 0, "look", (), 1)]
        self.assertEqual(ordered_rows(rows), rows[::-1])

    def test_what_is_passed_is_not_modified(self):
        rows = [(1, "look", "b", 0, 0, "look", (), 1), (0, "look", "a", 0, 0, "look", (), 1)]
        kept = list(rows)
        found = ordered_rows(rows)
        self.assertEqual(rows, kept)
        found.append(1)
        self.assertEqual(ordered_rows([]), [])


class ReplayTest(unittest.TestCase):
    STORE = (3, 3, (), ())
    DEEDS = (
        ("ann", "seize", (2,)), ("bob", "seize", (2,)), ("cat", "seize", (1,)), ("dan", "free", (1,)), ("ann", "free", (1,)),
        ("ann", "spare", ()), ("bob", "free", (2,)), ("ann", "waiting", ()),
    )

    def test_the_state_at_the_end(self):
        rows, state = made_rows("store", self.STORE, 0, self.DEEDS)
        self.assertEqual(replay_rows("store", self.STORE, ordered_rows(rows)), state)
        self.assertEqual(replay_rows("store", self.STORE, []), self.STORE)

    def test_random_books(self):
        chance = random.Random(9)
        for _ in range(30):
            deeds = []
            for _ in range(40):
                deed = chance.choice((("put", (chance.randint(0, 3),)), ("take", ()), ("length", ()), ("first", ())))
                deeds.append((chance.choice("abc"),) + deed)
            rows, state = made_rows("line", (), 0, deeds)
            self.assertEqual(replay_rows("line", (), ordered_rows(rows)), state)

    def test_each_wrong_row(self):
        rows, _ = made_rows("store", self.STORE, 0, self.DEEDS)
        rows = ordered_rows(rows)
        for at, row in enumerate(rows):
            for wrong in (
                (row[0] + 1,) + row[1:],
                (row[0] - 1,) + row[1:],
                row[:1] + ("look" if row[1] == "change" else "change",) + row[2:],
                row[:7] + (77,),
                row[:7] + (("ann", "zoe"),),
                row[:6] + ((0,), row[7]),
                row[:5] + ("put",) + row[6:],
            ):
                book = rows[:at] + [wrong] + rows[at + 1:]
                self.assertEqual(refusal(replay_rows, "store", self.STORE, book), ("BadBook", wrong[0]), wrong)

    def test_the_first_wrong_row_counts(self):
        rows = [(1, "change", "ann", 0, 0, "set", (5,), None), (1, "look", "ann", 0, 0, "look", (), 4),
                (3, "change", "ann", 0, 0, "set", (6,), None)]
        self.assertEqual(refusal(replay_rows, "cell", 0, rows), ("BadBook", 1))
        rows[1] = rows[1][:7] + (5,)
        self.assertEqual(refusal(replay_rows, "cell", 0, rows), ("BadBook", 3))

    def test_another_life_gives_another_answer(self):
        rows = [(1, "change", "ann", 0, 0, "seize", (2,), 1), (2, "change", "bob", 0, 0, "free", (2,), ())]
        self.assertEqual(refusal(replay_rows, "store", self.STORE, rows), ("BadBook", 2))

    def test_a_missing_change(self):
        rows, _ = made_rows("wheel", (3, 0), 0, [("ann", "take", ())] * 4)
        self.assertEqual(replay_rows("wheel", (3, 0), rows), (3, 1))
        self.assertEqual(refusal(replay_rows, "wheel", (3, 0), rows[:1] + rows[2:]), ("BadBook", 3))

    def test_none_and_0_are_different_answers(self):
        rows = [(0, "look", "ann", 0, 0, "look", (), None)]
        self.assertEqual(refusal(replay_rows, "cell", 0, rows), ("BadBook", 0))


if __name__ == "__main__":
    unittest.main()
