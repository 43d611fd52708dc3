"""The words of a row of text, which are separated by one space and are not empty."""

from wokenlives.errors import LivesError

DIGITS = "0123456789"
MOST_DIGITS = 9


class BadWords(LivesError):
    """The words of a row have not the form that is asked for."""


def natural(word):
    """The number from 0 that a word is the text of, or None."""
    if word == "" or word.strip(DIGITS) != "" or len(word) > MOST_DIGITS:
        return None
    if word[0] == "0" and word != "0":
        return None
    return int(word)


def signed(word):
    """The number that a word is the text of, or None."""
    if not word.startswith("-"):
        return natural(word)
    number = natural(word[1:])
    if number is None or number == 0:
        return None
    return -number


class Words:
    """A way through the words of a row from left to right."""

    def __init__(self, row):
        self.row = row.split(" ")
        self.at = 0

    def next_word(self):
        """The word that comes next."""
        if self.at >= len(self.row) or self.row[self.at] == "":
            raise BadWords()
        self.at += 1
        return self.row[self.at - 1]

    def need(self, expected):
        """Go behind a word that must follow."""
        if self.next_word() != expected:
            raise BadWords()

    def is_over(self):
        """Whether no word follows."""
        return self.at == len(self.row)

    def need_end(self):
        """Make sure that no word follows."""
        if not self.is_over():
            raise BadWords()

    def next_number(self):
        """The number from 0 that comes next."""
        number = natural(self.next_word())
        if number is None:
            raise BadWords()
        return number

    def next_value(self):
        """The value that comes next; a word that is no number and not `none` begins with a small letter."""
        word = self.next_word()
        if word == "none":
            return None
        number = signed(word)
        if number is not None:
            return number
        if word[0] < "a" or word[0] > "z":
            raise BadWords()
        return word

    def some_words(self):
        """The words that are counted next, a tuple."""
        return tuple([self.next_word() for _ in range(self.next_number())])

    def some_values(self):
        """The values that are counted next, a tuple."""
        return tuple([self.next_value() for _ in range(self.next_number())])

    def some_amounts(self):
        """The pairs of a word and a number that are counted next, a tuple."""
        return tuple([self.next_amount() for _ in range(self.next_number())])

    def next_amount(self):
        """The pair of a word and a number that comes next."""
        word = self.next_word()
        return (word, self.next_number())
