"""Point 62."""

import random
import unittest

from tests.chance import calm_program_text
from tests.plain import changed, whole
from wokenlives.programs import read_program
from wokenlives.runs import run
from wokenlives.standstill import standstill
from wokenlives.worlds import start_world

STORES = "store r = 1; store s = 1; store t = 2; gate g shut;"


def quiet_end(text):
    found = run(start_world(read_program(STORES + text)))
    assert found.reason == "quiet"
    return found.end


class ChainTest(unittest.TestCase):
    def test_a_sleeper(self):
        world = quiet_end("class a() { life { seize 1 of s; sleep; } } class b() { life { seize 1 of s; } }"
                          "start ann = a(); start bob = b(); start cat = b();")
        before = whole(world)
        self.assertEqual(standstill(world), [(("bob", "ann"), "sleeper"), (("cat", "ann"), "sleeper")])
        self.assertEqual(whole(world), before)

    def test_a_gate(self):
        world = quiet_end("class a() { life { seize 1 of s; wait g; } } class b() { life { seize 1 of s; } }"
                          "start zoe = a(); start bob = b() at 1;")
        self.assertEqual(standstill(world), [(("bob", "zoe"), "gate")])

    def test_rings(self):
        text = """class a() { life { seize 1 of r; hold 1; seize 1 of s; } } class b() { life { seize 1 of s; hold 1; seize 1 of r; } }
        class c() { life { hold 2; seize 1 of s; } } start ann = a(); start bob = b(); start cat = c();"""
        self.assertEqual(standstill(quiet_end(text)), [(("ann", "bob"), "ring"), (("bob", "ann"), "ring"),
                                                      (("cat", "bob", "ann"), "ring")])

    def test_a_life_that_waits_for_itself(self):
        world = quiet_end("class a() { life { seize 1 of s; seize 1 of s; } } start ann = a();")
        self.assertEqual(standstill(world), [(("ann",), "ring")])

    def test_a_longer_chain(self):
        text = """class a() { life { seize 1 of r; sleep; } } class b() { life { seize 1 of s; hold 1; seize 1 of r; } }
        class c() { life { hold 2; seize 1 of s; } } start zoe = a(); start bob = b(); start ann = c();"""
        self.assertEqual(standstill(quiet_end(text)), [(("ann", "bob", "zoe"), "sleeper"), (("bob", "zoe"), "sleeper")])

    def test_the_holder_of_the_least_name(self):
        text = """class a() { life { seize 1 of t; sleep; } } class b() { life { seize 1 of t; wait g; } }
        class c() { life { hold 1; seize 2 of t; } } start ann = c(); start cat = a(); start bob = b();"""
        self.assertEqual(standstill(quiet_end(text)), [(("ann", "bob"), "gate")])
        text = text.replace("start cat = a(); start bob = b();", "start cat = b(); start bob = a();")
        self.assertEqual(standstill(quiet_end(text)), [(("ann", "bob"), "sleeper")])

    def test_lives_that_wait_at_a_gate_or_sleep_have_no_chain(self):
        self.assertEqual(standstill(quiet_end("class a() { life { wait g; } } class b() { life { sleep; } }"
                                              "start ann = a(); start bob = b(); start cat = b() asleep;")), [])
        self.assertEqual(standstill(quiet_end("")), [])

    def test_worlds_that_are_not_quiet(self):
        text = "class a() { life { seize 1 of s; sleep; } } start ann = a(); start bob = a(); start cat = a() at 3;"
        world = start_world(read_program(STORES + text))
        self.assertEqual(standstill(world), [])
        behind = run(world, most=2).end
        self.assertEqual(behind.state("bob"), ("waits", "s"))
        self.assertEqual(standstill(behind), [])
        self.assertEqual(standstill(run(world).end), [(("bob", "ann"), "sleeper"), (("cat", "ann"), "sleeper")])
        self.assertEqual(standstill(changed(run(world).end, {"ann": ("due", 99, 0)})), [])

    def test_random_quiet_worlds(self):
        ends = {}
        for seed in range(150):
            found = run(start_world(read_program(calm_program_text(random.Random(seed)))))
            if found.reason != "quiet":
                continue
            world = found.end
            rows = standstill(world)
            waiting = [life for life in world.lives() if world.state(life) in (("waits", "tool"), ("waits", "desk"))]
            self.assertEqual([chain[0] for chain, _ in rows], waiting)
            for chain, end in rows:
                ends[end] = True
                for life, holder in zip(chain, chain[1:]):
                    self.assertEqual(holder, world.state(world.state(life)[1])[2][0][0])
                self.assertEqual(len(set(chain)), len(chain))
                last = world.state(chain[-1])
                if end == "ring":
                    self.assertIn(world.state(last[1])[2][0][0], chain)
                else:
                    self.assertEqual(last, ("asleep",) if end == "sleeper" else ("waits", last[1]))
        self.assertEqual(sorted(ends), ["gate", "ring", "sleeper"])


if __name__ == "__main__":
    unittest.main()
