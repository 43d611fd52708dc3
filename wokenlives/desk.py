"""Desks: programs that are worked on by rows of text."""

from wokenlives.counts import count_courses
from wokenlives.errors import BadRow, NoPlace, NoThing
from wokenlives.forests import lone_forest
from wokenlives.journeys import Journey
from wokenlives.partings import nearest_parting
from wokenlives.programs import read_program
from wokenlives.runs import books, told_texts
from wokenlives.words import natural
from wokenlives.worlds import start_world
from wokenlives.worldtext import state_text


class Desk:
    """A journey from the start world of a program, and the journal of the rows that changed it."""

    def __init__(self, text):
        self.journey = Journey(start_world(read_program(text)))
        self.busy = False
        # For each row of the journal (row, number of the happenings that it made).
        self.journal = []

    def answer(self, row):
        """The list of strings that answers a row."""
        self.busy = True
        try:
            return answer_to_row(self, row)
        finally:
            self.busy = False

    def journal_rows(self):
        """The list of the rows of the journal."""
        return [row for row, _ in self.journal]

    def keep_row(self, row, happenings):
        """Add a row to the journal; the list of strings that tell its happenings."""
        self.journal.append((row, len(happenings)))
        return [" ".join((happening.life,) + happening.outcome) for happening in happenings]


def answer_to_row(desk, row):
    """The answer of a desk to a row."""
    words = row.split(" ")
    if len(words) == 1 and words[0] in ALONE:
        answer_alone = ALONE[words[0]]
        return answer_alone(desk)
    if len(words) != 2 or words[1] == "":
        raise BadRow(row)
    word, more = words
    if word in BY_NAME:
        answer_by_name = BY_NAME[word]
        return answer_by_name(desk, more)
    if word not in BY_NUMBER or natural(more) is None:
        raise BadRow(row)
    answer_by_number = BY_NUMBER[word]
    return answer_by_number(desk, natural(more))


def answer_go(desk, life):
    """go NAME"""
    happening = desk.journey.go(life)
    return desk.keep_row(f"go {life}", [happening])


def answer_run(desk, number):
    """run NUMBER"""
    before = len(desk.journey.happenings)
    reason = desk.journey.go_on(most=number)
    return desk.keep_row(f"run {number}", desk.journey.happenings[before:]) + [reason]


def answer_until(desk, number):
    """until NUMBER"""
    before = len(desk.journey.happenings)
    reason = desk.journey.go_on(until=number, most=200)
    return desk.keep_row(f"until {number}", desk.journey.happenings[before:]) + [reason]


def answer_undo(desk):
    """undo"""
    if desk.journal == []:
        raise NoPlace(1)
    row, many = desk.journal[-1]
    desk.journey.back(many)
    desk.journal.pop()
    return [row]


def answer_due(desk):
    """due"""
    return desk.journey.world.due()


def answer_moment(desk):
    """moment"""
    world = desk.journey.world
    return [f"{world.time} {world.stage}"]


def need_thing(desk, thing):
    """Refuse a thing that the world of a desk does not have."""
    if thing not in desk.journey.world.things():
        raise NoThing(thing)


def answer_state(desk, thing):
    """state THING"""
    need_thing(desk, thing)
    world = desk.journey.world
    return [f"{state_text(world.kind(thing), world.state(thing))} number {world.number(thing)}"]


def answer_book(desk, thing):
    """book THING"""
    need_thing(desk, thing)
    rows = books(desk.journey.happenings).get(thing, [])
    return [f"{number} {mode} {life} {time} {stage} {deed}" for number, mode, life, time, stage, deed, _, _ in rows]


def answer_told(desk):
    """told"""
    return told_texts(desk.journey.happenings)


def answer_alike(desk):
    """alike"""
    if nearest_parting(desk.journey.world) is None:
        return ["yes"]
    return ["no"]


def answer_orders(desk):
    """orders"""
    return [str(count_courses(lone_forest(desk.journey.world)))]


def answer_parting(desk):
    """parting"""
    parting = nearest_parting(desk.journey.world)
    if parting is None:
        return ["none"]
    course, first, second, thing = parting
    return [" ".join(course), first, second, thing]


def answer_world(desk):
    """world"""
    return desk.journey.text().split("\n")


def answer_journal(desk):
    """journal"""
    return desk.journal_rows()


# The rows of one word, those of a word and a name, and those of a word and a number.
ALONE = {
    "undo": answer_undo,
    "due": answer_due,
    "moment": answer_moment,
    "told": answer_told,
    "alike": answer_alike,
    "orders": answer_orders,
    "parting": answer_parting,
    "world": answer_world,
    "journal": answer_journal,
}
BY_NAME = {"go": answer_go, "state": answer_state, "book": answer_book}
BY_NUMBER = {"run": answer_run, "until": answer_until}


def replay(text, rows):
    """A desk that has been given rows one after the other."""
    desk = Desk(text)
    for row in rows:
        desk.answer(row)
    return desk
