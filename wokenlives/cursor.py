"""Where the reader stands among the tokens of a text, and what it has noted so far."""

from wokenlives.errors import BadForm, BadSign, TooDeep

MOST_WEIGHT = 24
MOST_DEPTH = 8


class Cursor:
    """A way through tokens from left to right.

    A completing cursor does not refuse the end where a token is needed, but adds the token that fits.
    """

    def __init__(self, tokens, completing):
        self.tokens = tokens
        self.completing = completing
        self.at = 0
        self.added = []
        self.rows = []
        self.owner = ""
        self.deed = ""
        self.depth = 0
        self.weight = 0
        self.inner_fits = False

    def word(self):
        """The word of the token that comes next; the empty string only at the end."""
        return self.tokens[self.at][1]

    def where(self):
        """The row and the column of the token that comes next."""
        return self.tokens[self.at][2:]

    def refuse(self):
        """Refuse the token that comes next, since no well-formed text goes on with it."""
        kind, _, row, column = self.tokens[self.at]
        if kind == "bad":
            raise BadSign(row, column)
        raise BadForm(row, column)

    def step(self):
        """Go behind the token that comes next."""
        self.at += 1

    def takes(self, word):
        """Go behind an optional sign or keyword; whether it was there."""
        if self.word() != word:
            return False
        self.step()
        return True

    def need(self, word):
        """Go behind a sign or keyword that must follow."""
        if self.word() == word:
            self.step()
        else:
            self.fill_in(word)

    def need_kind(self, kind, filler):
        """Go behind a name or number that must follow; its word."""
        if self.tokens[self.at][0] == kind:
            word = self.word()
            self.step()
            return word
        self.fill_in(filler)
        return filler

    def need_number(self):
        """Go behind a number; its worth."""
        return int(self.need_kind("number", "0"))

    def need_size(self):
        """Go behind a number other than 0; its worth."""
        if self.word() == "0":
            self.refuse()
        return int(self.need_kind("number", "1"))

    def need_name(self, role):
        """Go behind a name and note it in this role."""
        place = self.where()
        name = self.need_kind("name", "a")
        self.note(role, name, place)
        return name

    def fill_in(self, word):
        """Add a word where the text ends too early, or refuse."""
        if not self.completing or self.tokens[self.at][0] != "end":
            self.refuse()
        self.added.append(word)

    def note(self, role, name, place):
        """Add a name row for the name at this place."""
        row, column = place
        self.rows.append((role, name, self.owner, self.deed, 0, row, column))

    def recount(self, at, number):
        """Set the count in the name row at this index."""
        row = self.rows[at]
        self.rows[at] = row[:4] + (number,) + row[5:]

    def weigh(self):
        """Count the token that comes next as a mark of weight."""
        if self.weight >= MOST_WEIGHT:
            row, column = self.where()
            raise TooDeep(row, column)
        self.weight += 1

    def check_depth(self):
        """Refuse the token that comes next if it would need a block that is too deep."""
        if self.depth >= MOST_DEPTH:
            row, column = self.where()
            raise TooDeep(row, column)
