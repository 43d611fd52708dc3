"""Lookers: whether a record is true, by its lives, its things and its moments alone, without any world."""

from wokenlives.errors import BadDeed, LivesError
from wokenlives.owns import first_own
from wokenlives.reader import Reader
from wokenlives.things import STANDS, THINGS, do_deed, fits, start_state, touch
from wokenlives.values import LIMIT, is_number

# What the answers to the deeds are.
ANSWERS = {
    "look": "value",
    "take": "value",
    "first": "value",
    "length": "count",
    "spare": "count",
    "waiting": "count",
    "seize": "truth",
    "wait": "truth",
    "isopen": "truth",
    "put": "truth",
    "born": "truth",
    "run": "truth",
    "tell": "truth",
    "sleep": "truth",
    "hold": "truth",
    "waits": "truth",
    "end": "truth",
    "fall": "truth",
    "wake": "truth",
    "stop": "truth",
    "grant": "truth",
    "stand": "stand",
    "free": "names",
    "open": "names",
    "set": "none",
    "shut": "none",
}


class OtherAsking(LivesError):
    """A life asks something else than what its touches say, or more."""


class Recorded:
    """The touches of a happening, which answer the askings that they tell."""

    def __init__(self, touches):
        self.touches = touches
        self.used = 0

    def answer_to(self, thing, deed, arguments):
        """The answer of the touch that comes next."""
        if self.used >= len(self.touches):
            raise OtherAsking()
        told, _, _, done, given, answer = self.touches[self.used]
        if (told, done, given) != (thing, deed, arguments):
            raise OtherAsking()
        self.used += 1
        return answer


def is_fitting(deed, answer):
    """Whether an answer is one that a deed can have."""
    form = ANSWERS.get(deed)
    if form == "none":
        return answer is None
    if form == "names":
        return isinstance(answer, tuple) and all([isinstance(name, str) for name in answer])
    if form == "value" and (answer is None or isinstance(answer, str)):
        return True
    if form is None or not is_number(answer):
        return False
    if form == "value":
        return -LIMIT <= answer <= LIMIT
    most = {"count": LIMIT, "truth": 1, "stand": len(STANDS) - 1}
    return 0 <= answer <= most[form]


def kind_of_name(program, thing):
    """The kind that a thing of this name has."""
    if ":" in thing:
        return "mark"
    kind = program.kinds.get(thing)
    return kind if kind in THINGS else "stand"


def start_of_name(program, thing):
    """(state, 0) at the start of the thing of this name, or None if it is a mark that the program does not have."""
    name = thing.rpartition(":")[2]
    kind = program.kinds.get(name)
    if ":" in thing and kind != "mark":
        return None
    if kind_of_name(program, thing) == "stand" and kind != "start":
        return ("unborn",), 0
    return start_state(program.item(name)), 0


def faults(program, record):
    """The list of (kind, name, place) of all slices of a record that fail, in ascending order."""
    found = moment_faults(program, record)
    found.extend([("life", life, place) for life, place in life_faults(program, record).items()])
    found.extend([("thing", thing, place) for thing, place in thing_faults(program, record).items()])
    return sorted(found)


def life_faults(program, record):
    """A dict from each life whose slice fails to the place where it does."""
    failed = {}
    # The own parts; None for a life whose slice has failed.
    owns = {}
    # What the first touch `born` with the answer 1 at the stand of each life tells.
    born = {}
    for place, (life, time, stage, touches) in enumerate(record):
        if life not in owns:
            owns[life] = own_at_first(program, life, born)
        owns[life] = own_behind(program, life, owns[life], (time, stage), touches)
        if owns[life] is None:
            failed.setdefault(life, place)
        for thing, _, _, deed, arguments, answer in touches:
            if deed == "born" and answer == 1:
                born.setdefault(thing, arguments)
    return failed


def own_at_first(program, life, born):
    """The first own part of a life, or None if it has none."""
    if program.kinds.get(life) == "start":
        _, _, name, values, _ = program.item(life)
        return first_own(program.flats[name], values)
    told = born.get(life, ())
    if told == () or told[0] not in program.flats:
        return None
    flat = program.flats[told[0]]
    if len(flat[2]) != len(told) - 1:
        return None
    return first_own(flat, told[1:])


def own_behind(program, life, own, moment, touches):
    """The own part behind a happening with these touches, or None if the life has no such happening."""
    if own is None or not all([is_fitting(told[3], told[5]) for told in touches]):
        return None
    recorded = Recorded(touches)
    reader = Reader(program, life, own, moment, recorded)
    try:
        reader.have_happening()
    except OtherAsking:
        return None
    if recorded.used < len(touches) or reader.outcome == ("notdue",):
        return None
    return reader.own_part()


def thing_faults(program, record):
    """A dict from each thing whose slice fails to the place where it does."""
    failed = {}
    # (state, number) of each thing; None for one whose slice has failed.
    found = {}
    for place, (life, _, _, touches) in enumerate(record):
        for told in touches:
            thing = told[0]
            if thing not in found:
                found[thing] = start_of_name(program, thing)
            found[thing] = found_behind(program, found[thing], life, told)
            if found[thing] is None:
                failed.setdefault(thing, place)
    return failed


def found_behind(program, found, life, told):
    """(state, number) of a thing behind a touch by a life, or None if the touch is not right."""
    if found is None:
        return None
    thing, _, _, deed, arguments, _ = told
    state, number = found
    try:
        made, after = touch(thing, kind_of_name(program, thing), state, number, life, deed, arguments)
    except BadDeed:
        return None
    if made != told:
        return None
    return after, made[1]


def moment_faults(program, record):
    """The list of the fault of the moments, if they are not right."""
    stands = {name: start_state(item) for name, item in program.named.items() if item[0] == "start"}
    before = (0, 0)
    for place, (life, time, stage, touches) in enumerate(record):
        moment = (time, stage)
        if moment < before or is_overdue(stands, moment):
            return [("moments", "", place)]
        before = moment
        for thing, _, _, deed, arguments, _ in touches:
            if kind_of_name(program, thing) == "stand" and fits("stand", deed, arguments):
                stands[thing], _ = do_deed("stand", stands.get(thing, ("unborn",)), life, deed, arguments)
    return []


def is_overdue(stands, moment):
    """Whether a stand is due at a moment before this one."""
    return any([stand[0] == "due" and stand[1:] < moment for stand in stands.values()])
