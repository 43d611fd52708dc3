"""Point 51: the machine and the reader on random programs, own parts, moments and answers."""

import random
import unittest

from tests.chance import calm_program_text, random_answers, random_own, random_program_text
from tests.oracle import oracle_alone
from wokenlives.machine import run_alone
from wokenlives.programs import read_program
from wokenlives.reader import read_alone

LIVES = ("ann", "bob.1", "cat.1.2", "cat.1.2.3")
MOMENTS = ((0, 0), (5, 0), (5, 7), (999999998, 0), (999999999, 10 ** 10))


class SameTest(unittest.TestCase):
    def check(self, chance, program, outcomes):
        own = random_own(chance, program)
        life = chance.choice(LIVES)
        moment = chance.choice(MOMENTS)
        answers = random_answers(chance, read_alone, program, life, own, moment)
        for given in (answers, answers + [None, 1], answers[:chance.randint(0, len(answers))]):
            kept = list(given)
            found = read_alone(program, life, own, moment, given)
            self.assertEqual(run_alone(program, life, own, moment, given), found)
            self.assertEqual(oracle_alone(program, life, own, moment, given), found)
            self.assertEqual(given, kept)
            outcomes[found[1]] = True

    def test_random_happenings(self):
        outcomes = {}
        for seed in range(250):
            chance = random.Random(seed)
            for text in (random_program_text(chance), calm_program_text(chance)):
                program = read_program(text)
                for _ in range(5):
                    self.check(chance, program, outcomes)
        faults = ("nolife", "kind", "zero", "big", "early", "count", "unheld", "full", "far", "many", "deep", "spent")
        for fault in faults:
            self.assertIn(("fall", fault), outcomes)
        for outcome in ("open", "notdue", "rest", "end"):
            self.assertIn((outcome,), outcomes)


if __name__ == "__main__":
    unittest.main()
