"""A slow recognizer of the grammar of point 8, written from the document alone, to check the reader by."""

RULES = """
program = { item }
item = "cell" NAME "=" signed ";" | "line" NAME ";" | "store" NAME "=" SIZE ";"
    | "gate" NAME ( "open" | "shut" ) ";" | "wheel" NAME "=" SIZE ";"
    | "mark" NAME "=" signed ";"
    | "class" NAME "(" [ NAME { "," NAME } ] ")" [ "within" NAME ] "{" { member } "}"
    | "start" NAME "=" NAME "(" [ signed { "," signed } ] ")" [ "at" number | "asleep" ] ";"
signed = [ "-" ] number
number = NUMBER | SIZE
member = "var" NAME "=" signed ";" | "deed" NAME "(" [ NAME { "," NAME } ] ")" block
    | "life" block
block = "{" { statement } "}"
statement = "set" target "=" expr ";" | "tell" NAME "(" [ exprs ] ")" ";"
    | "if" expr block [ "else" block ] | "while" expr block
    | "do" NAME "(" [ exprs ] ")" ";" | "inner" ";" | "hold" expr ";" | "sleep" ";"
    | "wake" expr [ "after" expr ] ";" | "stop" expr ";"
    | "seize" expr "of" NAME ";" | "free" expr "of" NAME ";" | "wait" NAME ";"
    | "open" NAME ";" | "shut" NAME ";" | "put" expr "into" NAME ";"
    | "take" target "from" NAME ";" | "make" target "=" NAME "(" [ exprs ] ")" ";"
    | "leave" ";"
target = NAME [ "." NAME ] | "me" "." NAME
exprs = expr { "," expr }
expr = conj { "or" conj }
conj = nay { "and" nay }
nay = "not" nay | compared
compared = sum [ ( "==" | "!=" | "<" | "<=" | ">" | ">=" ) sum ]
sum = product { ( "+" | "-" ) product }
product = signless { ( "*" | "/" | "mod" ) signless }
signless = "-" signless | primary
primary = number | "none" | "now" | "me" [ "." NAME ] | NAME [ "." NAME ] | "(" expr ")"
    | ( "length" | "first" | "spare" | "waiting" | "isopen" ) "(" NAME ")"
    | "stand" "(" expr ")"
"""


def productions():
    """The rules as a dict from each name to its list of productions; groups get names of their own."""
    found = {}
    current = []
    heads = []
    for word in RULES.split():
        current.append(word)
    at = 0
    while at < len(current):
        head = current[at]
        stop = at + 2
        while stop < len(current) and not (stop + 1 < len(current) and current[stop + 1] == "="):
            stop += 1
        heads.append((head, current[at + 2:stop]))
        at = stop
    for head, words in heads:
        found[head] = choices(words, found)
    return found


def choices(words, found):
    """The productions of a right side; groups are added to the dict of what was found."""
    lists = [[]]
    at = 0
    while at < len(words):
        word = words[at]
        if word == "|":
            lists.append([])
        elif word in ("[", "{", "("):
            stop = closing(words, at)
            name = f"group{len(found)}"
            found[name] = []
            inside = choices(words[at + 1:stop], found)
            if word == "{":
                inside = [part + (name,) for part in inside] + [()]
            if word == "[":
                inside = inside + [()]
            found[name] = inside
            lists[-1].append(name)
            at = stop
        else:
            lists[-1].append(word)
        at += 1
    return [tuple(part) for part in lists]


def closing(words, at):
    """The index of the bracket that closes the one at this index."""
    depth = 0
    while True:
        if words[at] in ("[", "{", "("):
            depth += 1
        if words[at] in ("]", "}", ")"):
            depth -= 1
        if depth == 0:
            return at
        at += 1


GRAMMAR = productions()


def terminal(token):
    """The symbol of the grammar that a token is."""
    kind, word = token[:2]
    if kind == "name":
        return "NAME"
    if kind == "number":
        return "NUMBER" if word == "0" else "SIZE"
    return f'"{word}"'


def closed(states, before):
    """An Earley set with all that follows from its states."""
    known = set(states)
    work = list(states)
    wanted = {}
    while work:
        state = work.pop()
        head, body, dot, origin = state
        if dot == len(body):
            parents = before[origin].get(head, []) if origin < len(before) else wanted.get(head, [])
            fresh = [(h, b, d + 1, o) for h, b, d, o in parents]
        else:
            symbol = body[dot]
            wanted.setdefault(symbol, []).append(state)
            fresh = [(symbol, part, 0, len(before)) for part in GRAMMAR.get(symbol, [])]
            if nullable(symbol):
                fresh.append((head, body, dot + 1, origin))
        for one in fresh:
            if one not in known:
                known.add(one)
                work.append(one)
    return known, wanted


def nullable(symbol):
    return any(all(nullable(part) for part in body) for body in GRAMMAR.get(symbol, []) if body == ())


def first_refused(tokens):
    """The index of the first token with which no text of the grammar goes on, or None."""
    before = []
    states = {("goal", ("program",), 0, 0)}
    for index, token in enumerate(tokens):
        states, wanted = closed(states, before)
        before.append(wanted)
        if token[0] == "end":
            done = any(state == ("goal", ("program",), 1, 0) for state in states)
            return None if done else index
        symbol = terminal(token)
        states = {(h, b, d + 1, o) for h, b, d, o in wanted.get(symbol, [])}
        if token[0] == "bad" or not states:
            return index
    return None
