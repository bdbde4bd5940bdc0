"""Examples made by the tests: the same ones each time that they're asked for."""

import random

import oracle


def made_line(rng, signs):
    """A line of a few letters; now and then a long one or one of the script's own words."""
    kind = rng.random()
    if kind < 0.05:
        return rng.choice(oracle.OWN)
    if kind < 0.1:
        return "".join(rng.choice(signs) for _ in range(rng.randint(7, 16)))
    return "".join(rng.choice(signs) for _ in range(rng.randint(0, 3)))


def made_text(rng, signs, most=4):
    """A text of a few lines."""
    return [made_line(rng, signs) for _ in range(rng.randint(0, most))]


def by_script(rng, pairs):
    """The same texts of before, with what a script of one or two of the family's commands makes of them."""
    commands = oracle.commands(pairs)
    script = "".join(rng.choice(commands) for _ in range(rng.randint(1, 2)))
    return [(before, oracle.run(script, before)) for before, after in pairs]


def made_pairs(seed, count):
    """As many sets of none to four examples, each a text of before and one of after."""
    rng = random.Random(seed)
    made = []
    while len(made) < count:
        signs = rng.choice(["a", "ab", "abc", "xyz", "abcdefgh"])
        pairs = [(made_text(rng, signs), made_text(rng, signs, 3)) for _ in range(rng.choice([0, 1, 1, 1, 2, 2, 3, 4]))]
        if rng.random() < 0.7:
            pairs = by_script(rng, pairs)
        if all(len(after) <= 6 for before, after in pairs):
            made.append(pairs)
    return made


LETTERS = ["a", "b", "ab", "aa", "c", "abcdefgh", "bbbbbbbb", "x"]


def made_address(rng, letters=LETTERS):
    """The words of an address."""
    nots = ["not"] * rng.choice([0, 0, 0, 0, 1, 1, 2, 3])
    low, high = sorted((rng.randint(1, 6), rng.randint(1, 7)))
    plain = rng.choice([
        ["all"], ["last"], ["line", str(low)], ["from", str(low), "to", str(high)],
        ["has", rng.choice(letters)], ["has", rng.choice(letters)], ["is", rng.choice(letters)],
    ])
    return nots + plain


def made_deed(rng, letters=LETTERS):
    """The words of a deed."""
    verb = rng.choice(oracle.VERBS + ["swap", "first", "change", "before", "after", "keep", "bring", "trade"])
    if verb in ("before", "after", "change"):
        return [verb, rng.choice(letters)]
    if verb in ("swap", "first"):
        return [verb, rng.choice(letters), rng.choice(letters + ["none", "none"])]
    return [verb, str(rng.randint(1, 4))] if verb == "skip" else [verb]


def made_script(rng, most=8, letters=LETTERS):
    """The tokens of a script that is right."""
    words = []
    for _ in range(rng.randint(0, most)):
        if rng.random() < 0.7:
            words += ["if", *made_address(rng, letters)]
        words += [*made_deed(rng, letters), ";"]
    return words


def written(rng, words):
    """Tokens as bytes, with blanks and remarks between them and at both ends."""
    gaps = [" ", "  ", "\n", "\t", "# if all ! ;\n", "#\n", " # \t#\n\n "]
    told = rng.choice(["", *gaps])
    for word in words:
        told += word + rng.choice(["", *gaps] if word == ";" else gaps)
    return (told + rng.choice(["", "", "#", "# end"])).encode()


def spoiled(rng, words):
    """Tokens of which one is left out, doubled, put in or another one now, or that break off."""
    others = oracle.OWN + [";", ";", "a", "abcdefgh", "abcdefghi", "0", "1", "2", "9", "10", "99", "100", "01",
                           "1000000000", "1000000001", "A", "!", "-1"]
    place = rng.randint(0, len(words))
    kind = rng.randint(0, 6)
    if kind == 0:
        return words[:place] + words[place + 1:]
    if kind == 1:
        return words[:place] + [rng.choice(others)] + words[place + 1:]
    if kind == 2:
        return words[:place] + [rng.choice(others)] + words[place:]
    if kind == 3:
        return words[:place] + words[place:place + 1] + words[place:]
    if kind == 4:
        return words[:place]
    if kind == 5:
        return [rng.choice(["0", "1", "3", "9", "10", "99", "100"]) if word.isdigit() else word for word in words]
    nots = ["not"] * rng.randint(1, 4)
    return [part for word in words for part in ([word, *nots] if word == "if" else [word])]
