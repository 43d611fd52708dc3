"""Programs: texts that are well formed and have right names."""

from wokenlives.compiling import compile_body
from wokenlives.flats import class_items, flat_class
from wokenlives.names import check_names
from wokenlives.reading import tree_and_rows
from wokenlives.scopes import all_scopes


class Program:
    """A program by its tree, with the kinds of its items, its flat classes and their bodies."""

    def __init__(self, tree):
        self.tree = tree
        self.kinds = {item[1]: item[0] for item in tree}
        self.flats = {name: flat_class(tree, name) for name in class_items(tree)}
        self.named = {item[1]: item for item in tree}
        self.scopes = all_scopes(self.kinds, self.flats)
        self.compiled = {}
        for name, body in self.scopes:
            self.compiled[(name, body)] = compile_body(self, self.flats[name], body)

    def item(self, name):
        """The item with this name."""
        return self.named[name]


def read_program(text):
    """The program of a text; its tree is read first, then its names are checked."""
    tree, rows = tree_and_rows(text)
    check_names(rows, tree)
    return Program(tree)
