"""Records of happenings, and their texts."""

from wokenlives.errors import BadRecord
from wokenlives.values import value_text
from wokenlives.words import BadWords, Words

# What the words of a record consist of that are not numbers.
PLAIN_SIGNS = "abcdefghijklmnopqrstuvwxyz0123456789.:"


def record_of(happenings):
    """The record of a list of happenings."""
    return tuple([(happening.life, happening.time, happening.stage, happening.touches) for happening in happenings])


def write_record(record):
    """The text of a record."""
    rows = []
    for life, time, stage, touches in record:
        rows.append(f"happening {life} {time} {stage}")
        rows.extend([touch_text(touch) for touch in touches])
    return "\n".join(rows)


def touch_text(touch):
    """The row of a touch."""
    thing, number, mode, deed, arguments, answer = touch
    words = ["touch", thing, str(number), mode, deed, str(len(arguments))]
    words.extend([value_text(argument) for argument in arguments])
    if isinstance(answer, tuple):
        words.extend(["lives", str(len(answer))])
        words.extend(answer)
    else:
        words.extend(["value", value_text(answer)])
    return " ".join(words)


def read_record(text):
    """The record of a text."""
    if text == "":
        return ()
    found = []
    for at, row in enumerate(text.split("\n")):
        try:
            read_row(found, Words(row))
        except BadWords:
            raise BadRecord(at + 1) from None
    return tuple([(life, time, stage, tuple(touches)) for life, time, stage, touches in found])


def read_row(found, words):
    """Add what the words of a row tell to the happenings that have been found."""
    word = words.next_word()
    if word == "happening":
        found.append((plain_word(words), words.next_number(), words.next_number(), []))
    elif word == "touch" and found != []:
        found[-1][3].append(touch_from(words))
    else:
        raise BadWords()
    words.need_end()


def touch_from(words):
    """The touch that comes next."""
    thing = plain_word(words)
    number = words.next_number()
    mode = words.next_word()
    if mode not in ("change", "look"):
        raise BadWords()
    deed = plain_word(words)
    arguments = tuple([plain_value(words) for _ in range(words.next_number())])
    return (thing, number, mode, deed, arguments, answer_from(words))


def answer_from(words):
    """The answer that comes next."""
    word = words.next_word()
    if word == "value":
        return plain_value(words)
    if word != "lives":
        raise BadWords()
    return tuple([plain_word(words) for _ in range(words.next_number())])


def plain_word(words):
    """The name or word that comes next, which begins with a letter."""
    word = words.next_word()
    # The letters stand behind the digits, the dot and the colon.
    if word.strip(PLAIN_SIGNS) != "" or word[0] < "a":
        raise BadWords()
    return word


def plain_value(words):
    """The value that comes next."""
    value = words.next_value()
    if isinstance(value, str) and value.strip(PLAIN_SIGNS) != "":
        raise BadWords()
    return value
