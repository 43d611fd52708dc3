"""The names, arguments and methods that the document's interface lists, each in its own file."""

import importlib
import inspect
import unittest

FUNCTIONS = {
    "tokens": ["token_list(text)"],
    "reading": ["read_tree(text)", "ending(text)", "name_rows(text)"],
    "writing": ["write_tree(tree)", "write_expression(expr)"],
    "names": ["chain_of(rows, owner)", "visible(rows, name, owner, deed)", "check_names(rows, tree)"],
    "blocks": ["has_inner(block)", "with_inner(block)", "fill(block, other)", "numbered(block)", "behind(block, number)",
               "depth_of(block)"],
    "flats": ["line_of(tree, name)", "flat_class(tree, name)", "flat_tree(tree)", "bodies(flat)"],
    "programs": ["read_program(text)"],
    "things": ["start_state(item)", "fits(kind, deed, arguments)", "do_deed(kind, state, life, deed, arguments)",
               "touch(thing, kind, state, number, life, deed, arguments)"],
    "books": ["ordered_rows(rows)", "replay_rows(kind, state, rows)"],
    "values": ["is_true(value)", "value_text(value)", "combine(sign, left, right)", "later_moment(time, stage, value)"],
    "owns": ["first_own(flat, values)"],
    "reader": ["read_alone(program, life, own, moment, answers)"],
    "compiling": ["compile_expression(program, flat, body, expr)", "compile_body(program, flat, body)"],
    "heights": ["row_heights(rows)"],
    "machine": ["run_alone(program, life, own, moment, answers)"],
    "worlds": ["start_world(program)", "advance(world)"],
    "happenings": ["happen(world, life, *, by='reader')"],
    "runs": ["run(world, *, until=None, most=200, by='reader')", "follow(world, names, *, advancing=False, by='reader')",
             "books(happenings)", "told_rows(happenings)"],
    "sound": ["broken_rule(world)"],
    "standstill": ["standstill(world)"],
    "forests": ["lone_forest(world, *, most=120)"],
    "crossings": ["meeting(first, second)", "crossings(forest)", "nearest_crossing(world, *, most=120)"],
    "partings": ["nearest_parting(world, *, most=120)", "run_parting(world, *, until=None, most=200, lines=120)",
                 "course_decides(world, names)"],
    "counts": ["count_courses(forest)", "course_at(forest, place)", "place_of(forest, names)", "leaves(forest)", "rounds(forest)"],
    "exchanges": ["distance(forest, first, second)", "exchange_way(forest, first, second)"],
    "worldtext": ["write_world(world)", "read_world(program, text)"],
    "ways": ["ways(world, *, until, most=300)", "last_fork(world, *, until, most=300)"],
    "journeys": ["take_back(world, happening)"],
    "records": ["record_of(happenings)", "write_record(record)", "read_record(text)"],
    "looker": ["faults(program, record)"],
    "witness": ["alike_witness(forest)", "accepts_alike(world, witness)", "accepts_parting(world, parting)",
                "no_end(world, *, most=60)"],
    "desk": ["replay(text, rows)"],
}
CLASSES = {
    ("programs", "Program"): ["item(self, name)"],
    ("worlds", "World"): ["things(self)", "lives(self)", "due(self)", "kind(self, thing)", "state(self, thing)",
                          "number(self, thing)", "own_part(self, life)", "coming(self)"],
    ("happenings", "Happening"): [],
    ("runs", "Run"): ["__iter__(self)"],
    ("forests", "Forest"): ["__iter__(self)", "__len__(self)", "__contains__(self, line)", "touches_of(self, line)",
                            "world_behind(self, line)"],
    ("journeys", "Journey"): ["__init__(self, world)", "go(self, life)", "go_all(self, names)",
                              "go_on(self, *, until=None, most=200)", "back(self, count)", "names(self)", "text(self)"],
    ("desk", "Desk"): ["__init__(self, text)", "answer(self, row)", "journal_rows(self)"],
}


class InterfaceTest(unittest.TestCase):
    def check(self, holder, row, module):
        name = row.split("(")[0]
        found = vars(holder)[name]
        self.assertEqual(found.__module__, module)
        self.assertEqual(name + str(inspect.signature(found)), row)

    def test_functions(self):
        for file, rows in FUNCTIONS.items():
            module = importlib.import_module("wokenlives." + file)
            for row in rows:
                self.check(module, row, module.__name__)

    def test_methods_stand_in_their_classes(self):
        for (file, name), rows in CLASSES.items():
            module = importlib.import_module("wokenlives." + file)
            found = vars(module)[name]
            self.assertEqual(found.__module__, module.__name__)
            for row in rows:
                self.check(found, row, module.__name__)


if __name__ == "__main__":
    unittest.main()
