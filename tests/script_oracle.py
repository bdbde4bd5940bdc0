"""How a script is read, written a second time: a table of what may stand behind what."""

import re

import oracle

TOKEN = re.compile(rb"(?:[\x20\x09\x0a]|#[^\x0a]*)*(?:(?P<word>[a-z]+)|(?P<number>[0-9]+)|(?P<sign>;)|(?P<end>\Z)|.)", re.S)

DEEDS = dict.fromkeys(["delete", "keep", "bring", "trade", "stop"], "close")
DEEDS |= dict.fromkeys(["before", "after", "change"], "letters")
DEEDS |= dict.fromkeys(["swap", "first"], "one")
DEEDS |= {"skip": "count"}
ADDRESSES = {"all": "deed", "last": "deed", "has": "name", "is": "name", "line": "line", "from": "low"}
TABLE = {
    "command": {"if": "address 0", "END": "right", **DEEDS},
    "address 0": {"not": "address 1", **ADDRESSES},
    "address 1": {"not": "address 2", **ADDRESSES},
    "address 2": {"not": "address 3", **ADDRESSES},
    "address 3": {"not": "too many", **ADDRESSES},
    "name": {"LETTERS": "deed"},
    "line": {"NUMBER": "deed"},
    "low": {"NUMBER": "to"},
    "to": {"to": "high"},
    "high": {"NUMBER": "deed"},
    "deed": DEEDS,
    "letters": {"LETTERS": "close"},
    "one": {"LETTERS": "other"},
    "other": {"LETTERS": "close", "none": "close"},
    "count": {"NUMBER": "close"},
    "close": {";": "command"},
}


def tokens(told):
    """The kind, the signs and the place of each token; a fault instead of the last ones if there is one."""
    found = []
    place = 0
    while not found or found[-1][0] not in ("END", 2):
        match = TOKEN.match(told, place)
        kind = match.lastgroup
        if kind is None:
            found.append((2, "", match.end() - 1))
            continue
        signs, place = match[kind].decode(), match.end()
        if kind == "word":
            name = 2 if len(signs) > 8 else signs if signs in oracle.OWN else "LETTERS"
        elif kind == "number":
            name = 2 if int(signs) > 10 ** 9 or signs[0] == "0" != signs else "NUMBER"
        else:
            name = signs or "END"
        found.append((name, signs, match.start(kind)))
    return found


def bounds(state, words):
    """The least and the greatest number that may stand here, behind these words."""
    if state == "count":
        return 1, 9
    return (int(words[-2]) if state == "high" else 1), 99


def read(told):
    """The one form of a script; or a fault's code and its place."""
    if len(told) > 4096:
        return 1, 4096
    found = tokens(told)
    if found[-1][0] == 2:
        return 2, found[-1][2]
    state, words, commands = "command", [], 0
    for name, signs, place in found:
        if state == "command" and commands == 16 and name != "END":
            return 4, place
        if name not in TABLE[state]:
            return 3, place
        if name == "NUMBER":
            low, high = bounds(state, words)
            if not low <= int(signs) <= high:
                return 7, place
        state = TABLE[state][name]
        if state == "too many":
            return 4, place
        words.append(signs)
        commands += name == ";"
    form = "".join(word + ("\n" if word == ";" else " ") for word in words[:-1])
    return re.sub(r"^if all ", "", form, flags=re.M)


def check(told, pairs):
    """What check answers where these examples are held."""
    form = read(told)
    if not isinstance(form, str):
        return [0, *form]
    distances = [oracle.far_from(form, before, after) for before, after in pairs]
    return [1, sum(oracle.run(form, before) == after for before, after in pairs), *distances]
