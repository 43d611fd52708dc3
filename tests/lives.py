"""What the tests of happenings share."""

import unittest

from tests.oracle import oracle_alone
from wokenlives.machine import run_alone
from wokenlives.owns import first_own
from wokenlives.programs import read_program
from wokenlives.reader import read_alone

THINGS = """
cell c = 0; cell r = 0; line q; store s = 3; store t = 1; gate g shut; wheel w = 3; mark m = 0; mark n = 5;
start ann = k(); start bob = k() asleep;
"""
NAME = "ann"
MOMENT = (5, 2)
RUN = (NAME, "run", MOMENT)
END = (NAME, "end", ())


def fall(fault):
    return (NAME, "fall", (fault,))


def class_k(life, members=""):
    """A program whose class k has no params and this life; members may be vars and deeds."""
    return read_program(THINGS + f"class k() {{ {members} life {{ {life} }} }}")


def own_of(frames=(("life", 0, ()),), fields=(), held=(), asked=None, made=0):
    """An own part of a life of class k."""
    return ("k", tuple(fields), tuple(frames), tuple(held), asked, made)


class AloneCase(unittest.TestCase):
    """Happenings alone, each made by the reader, by the machine and by the oracle."""

    def alone(self, program, own, answers, life=NAME, moment=MOMENT):
        """(askings without the run, outcome, own part)."""
        given = [1] + list(answers)
        kept = list(given)
        found = read_alone(program, life, own, moment, given)
        self.assertEqual(found, oracle_alone(program, life, own, moment, given))
        self.assertEqual(found, run_alone(program, life, own, moment, given))
        self.assertEqual(given, kept)
        askings, outcome, behind = found
        self.assertIsInstance(askings, list)
        self.assertEqual(askings[0], (life, "run", moment))
        return askings[1:], outcome, behind

    def first(self, life, answers, members=""):
        """The first happening of a life of class k with this block."""
        program = class_k(life, members)
        return self.alone(program, first_own(program.flats["k"], ()), answers)

    def fault(self, life, answers=(), members=""):
        """The askings before the end of a life that falls, and the fault; all later answers are 1."""
        askings, outcome, own = self.first(life, list(answers) + [1], members)
        self.assertEqual(outcome[0], "fall")
        self.assertEqual(askings[-1], fall(outcome[1]))
        self.assertEqual(own[2:5], ((), (), None))
        return askings[:-1], outcome[1]
