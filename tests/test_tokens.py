import unittest

from wokenlives.tokens import KEYWORDS, token_list

WORDS = (
    "cell line store gate wheel mark class within var deed life start at asleep open shut set tell if else while do "
    "inner hold sleep wake after stop seize of free wait put into take from make leave or and not mod none me now "
    "length first spare waiting isopen stand"
)


def kinds_and_words(text):
    return [token[:2] for token in token_list(text)]


class TokensTest(unittest.TestCase):
    def test_keywords(self):
        self.assertEqual(KEYWORDS, tuple(WORDS.split()))

    def test_the_example(self):
        self.assertEqual(token_list("set x=1"), [
            ("keyword", "set", 1, 1), ("name", "x", 1, 5), ("sign", "=", 1, 6), ("number", "1", 1, 7),
            ("end", "", 1, 8),
        ])

    def test_empty_text(self):
        self.assertEqual(token_list(""), [("end", "", 1, 1)])

    def test_every_keyword_is_one_and_longer_words_are_names(self):
        for word in KEYWORDS:
            self.assertEqual(kinds_and_words(word), [("keyword", word), ("end", "")])
            self.assertEqual(kinds_and_words(word + "1"), [("name", word + "1"), ("end", "")])

    def test_names_of_12_and_13_characters(self):
        self.assertEqual(kinds_and_words("abcdefghijk1"), [("name", "abcdefghijk1"), ("end", "")])
        self.assertEqual(token_list(" abcdefghijkl1 x"), [("bad", "abcdefghijkl1", 1, 2)])

    def test_numbers_of_nine_and_ten_digits(self):
        self.assertEqual(kinds_and_words("123456789"), [("number", "123456789"), ("end", "")])
        self.assertEqual(kinds_and_words("1234567890"), [("bad", "1234567890")])

    def test_zero_in_front(self):
        self.assertEqual(kinds_and_words("0"), [("number", "0"), ("end", "")])
        self.assertEqual(kinds_and_words("10"), [("number", "10"), ("end", "")])
        for text in ("00", "01", "0a", "012345678"):
            self.assertEqual(kinds_and_words(text), [("bad", text)])

    def test_letters_behind_digits(self):
        self.assertEqual(token_list("x 12ab y"), [("name", "x", 1, 1), ("bad", "12ab", 1, 3)])

    def test_all_signs(self):
        signs = "{ } ( ) , ; . + - * / = == != < <= > >=".split()
        for sign in signs:
            self.assertEqual(kinds_and_words(sign), [("sign", sign), ("end", "")])

    def test_the_longer_sign_is_taken(self):
        self.assertEqual([word for _, word in kinds_and_words("===")], ["==", "=", ""])
        self.assertEqual([word for _, word in kinds_and_words("<==>=!=")], ["<=", "=", ">=", "!=", ""])
        self.assertEqual([word for _, word in kinds_and_words("=<>=")], ["=", "<", ">=", ""])
        self.assertEqual([word for _, word in kinds_and_words("--")], ["-", "-", ""])
        self.assertEqual([word for _, word in kinds_and_words("= =")], ["=", "=", ""])

    def test_bad_characters_end_the_list(self):
        for sign in "A!\t_\"'?@&|~^$\\[]:`\r%" + "\u00e9\u0663":
            self.assertEqual(token_list(f"a{sign}b c"), [("name", "a", 1, 1), ("bad", sign, 1, 2)], repr(sign))
        self.assertEqual(kinds_and_words("! ="), [("bad", "!")])
        self.assertEqual(kinds_and_words("!"), [("bad", "!")])

    def test_a_bad_token_behind_a_bad_token_is_not_told(self):
        self.assertEqual(token_list("AB"), [("bad", "A", 1, 1)])

    def test_rows_and_columns(self):
        self.assertEqual(token_list("a\n  b\n\nc"), [
            ("name", "a", 1, 1), ("name", "b", 2, 3), ("name", "c", 4, 1), ("end", "", 4, 2),
        ])

    def test_comments(self):
        self.assertEqual(token_list("ab#c\tD %!\nd # e\n"), [
            ("name", "ab", 1, 1), ("name", "d", 2, 1), ("end", "", 3, 1),
        ])
        self.assertEqual(kinds_and_words("a#\nb"), [("name", "a"), ("name", "b"), ("end", "")])
        self.assertEqual(kinds_and_words("a#b#c"), [("name", "a"), ("end", "")])

    def test_the_end_is_behind_the_last_character(self):
        self.assertEqual(token_list("a  ")[-1], ("end", "", 1, 4))
        self.assertEqual(token_list("a\n")[-1], ("end", "", 2, 1))
        self.assertEqual(token_list("a\n ")[-1], ("end", "", 2, 2))
        self.assertEqual(token_list("a # bc")[-1], ("end", "", 1, 7))
        self.assertEqual(token_list("#")[-1], ("end", "", 1, 2))

    def test_each_list_is_new(self):
        first = token_list("a")
        first.append(1)
        self.assertEqual(len(token_list("a")), 2)


if __name__ == "__main__":
    unittest.main()
