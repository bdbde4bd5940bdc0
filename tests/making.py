"""Examples made by the tests: the same ones each time that they're asked for."""

import random

import oracle


def made_line(rng, signs):
    """A line of a few letters; now and then a long one or one of the script's own words."""
    kind = rng.random()
    if kind < 0.05:
        return rng.choice(oracle.OWN)
    if kind < 0.1:
        return "".join(rng.choice(signs) for _ in range(rng.randint(7, 16)))
    return "".join(rng.choice(signs) for _ in range(rng.randint(0, 3)))


def made_text(rng, signs, most=4):
    """A text of a few lines."""
    return [made_line(rng, signs) for _ in range(rng.randint(0, most))]


def by_script(rng, pairs):
    """The same texts of before, with what a script of one or two of the family's commands makes of them."""
    commands = oracle.commands(pairs)
    script = "".join(rng.choice(commands) for _ in range(rng.randint(1, 2)))
    return [(before, oracle.run(script, before)) for before, after in pairs]


def made_pairs(seed, count):
    """As many sets of none to four examples, each a text of before and one of after."""
    rng = random.Random(seed)
    made = []
    while len(made) < count:
        signs = rng.choice(["a", "ab", "abc", "xyz", "abcdefgh"])
        pairs = [(made_text(rng, signs), made_text(rng, signs, 3)) for _ in range(rng.choice([0, 1, 1, 1, 2, 2, 3, 4]))]
        if rng.random() < 0.7:
            pairs = by_script(rng, pairs)
        if all(len(after) <= 6 for before, after in pairs):
            made.append(pairs)
    return made
