"""The tokens of a program text."""

KEYWORDS = (
    "cell", "line", "store", "gate", "wheel", "mark", "class", "within", "var", "deed", "life", "start", "at",
    "asleep", "open", "shut", "set", "tell", "if", "else", "while", "do", "inner", "hold", "sleep", "wake", "after",
    "stop", "seize", "of", "free", "wait", "put", "into", "take", "from", "make", "leave", "or", "and", "not", "mod",
    "none", "me", "now", "length", "first", "spare", "waiting", "isopen", "stand",
)

LONG_SIGNS = ("==", "!=", "<=", ">=")
SHORT_SIGNS = ("{", "}", "(", ")", ",", ";", ".", "+", "-", "*", "/", "=", "<", ">")

MOST_LETTERS = 12
MOST_DIGITS = 9


def token_list(text):
    """The list of the tokens up to the first bad one, or up to the end of the text."""
    tokens = []
    row = 1
    row_start = 0
    at = 0
    while at < len(text):
        sign = text[at]
        if sign == "\n":
            row += 1
            at += 1
            row_start = at
        elif sign == " ":
            at += 1
        elif sign == "#":
            at = end_of_row(text, at)
        else:
            kind, word = token_at(text, at)
            tokens.append((kind, word, row, at - row_start + 1))
            if kind == "bad":
                return tokens
            at += len(word)
    tokens.append(("end", "", row, at - row_start + 1))
    return tokens


def end_of_row(text, at):
    """The index of the line feed behind this place, or of the end of the text."""
    found = text.find("\n", at)
    if found < 0:
        return len(text)
    return found


def token_at(text, at):
    """The kind and the word of the token that begins at this place."""
    if in_run(text[at]):
        run = text[at:end_of_run(text, at)]
        return run_kind(run), run
    if text[at:at + 2] in LONG_SIGNS:
        return "sign", text[at:at + 2]
    if text[at] in SHORT_SIGNS:
        return "sign", text[at]
    return "bad", text[at]


def in_run(sign):
    """Whether this character belongs to a word or a number."""
    return "a" <= sign <= "z" or "0" <= sign <= "9"


def end_of_run(text, at):
    """The index behind the longest run of letters and digits that begins at this place."""
    while at < len(text) and in_run(text[at]):
        at += 1
    return at


def run_kind(run):
    """The kind of a token of letters and digits."""
    if "a" <= run[0] <= "z":
        return word_kind(run)
    if not run.isdigit() or len(run) > MOST_DIGITS:
        return "bad"
    if run[0] == "0" and len(run) > 1:
        return "bad"
    return "number"


def word_kind(run):
    """The kind of a token that begins with a letter."""
    if run in KEYWORDS:
        return "keyword"
    if len(run) > MOST_LETTERS:
        return "bad"
    return "name"
