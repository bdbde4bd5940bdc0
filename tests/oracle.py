"""What the document says, written a second time and plainly: scripts are texts here.

Slow on purpose: every script that the document speaks of is tried, and what
two texts have in common is found by trying every choice of lines, but where
both texts are long.
"""

from functools import lru_cache
from itertools import combinations

OWN = ("if all line from to last has is not delete before after change swap first keep bring "
       "trade skip stop none").split()
VERBS = "delete before after change swap first keep bring trade skip stop".split()


def holds(words, line, number, count):
    """Whether the address made of these words holds."""
    if words[0] == "not":
        return not holds(words[1:], line, number, count)
    return {
        "all": lambda: True,
        "last": lambda: number == count,
        "line": lambda: number == int(words[1]),
        "from": lambda: number in range(int(words[1]), int(words[3]) + 1),
        "is": lambda: line == words[1],
        "has": lambda: words[1] in line,
    }[words[0]]()


def parted(command):
    """The words of a command's address and of its deed."""
    words = command.split()
    assert words.pop() == ";"
    if words[0] != "if":
        return ["all"], words
    place = min(words.index(verb) for verb in VERBS if verb in words)
    return words[1:place], words[place:]


def put(verb, told, line, held, above, below):
    """What a deed makes of a line and of the held line; lines are put above and below."""
    if verb == "change":
        line = told[0]
    elif verb == "before":
        above += told
    elif verb == "after":
        below += told
    elif verb == "bring":
        below += [held]
    elif verb == "keep":
        held = line
    elif verb == "trade":
        line, held = held, line
    elif verb == "swap":
        line = told[1].join(line.split(told[0]))
    elif verb == "first":
        head, found, tail = line.partition(told[0])
        line = head + (told[1] if found else "") + tail
    else:
        raise AssertionError(verb)
    return line, held


def run(script, lines):
    """What comes of these lines, or None if it's too much."""
    commands = [parted(command) for command in script.splitlines()]
    out = []
    held = ""
    for number, line in enumerate(lines, start=1):
        above, below, stays, at = [], [], True, 0
        while at < len(commands):
            address, (verb, *told) = commands[at]
            at += 1
            if not holds(address, line, number, len(lines)):
                continue
            if verb in ("delete", "stop"):
                stays = verb == "stop"
                break
            if verb == "skip":
                at += int(told[0])
                continue
            told = ["" if word == "none" else word for word in told]
            line, held = put(verb, told, line, held, above, below)
            if len(line) > 16:
                return None
        out += above + [line] * stays + below
    return out if len(out) <= 60 else None


def is_within(some, lines):
    """Whether some lines stand in these lines in order."""
    rest = iter(lines)
    return all(line in rest for line in some)


def common(one, other):
    """How many lines two texts have in common at most."""
    one, other = sorted((tuple(one), tuple(other)), key=len)
    if len(one) > 8:
        return common_of_long(one, other)
    sizes = range(len(one), -1, -1)
    return next(size for size in sizes if any(is_within(some, other) for some in combinations(one, size)))


@lru_cache(maxsize=None)
def common_of_long(one, other):
    """How many lines two texts have in common at most: with or without the first line of the one."""
    if not one or not other:
        return 0
    without = common_of_long(one[1:], other)
    if one[0] not in other:
        return without
    return max(without, 1 + common_of_long(one[1:], other[other.index(one[0]) + 1:]))


def far(one, other):
    """How far two texts are from each other."""
    return len(one) + len(other) - 2 * common(one, other)


def far_from(script, before, after):
    """How far a script is from an example."""
    result = run(script, before)
    return 1000 if result is None else far(result, after)


def words_of(texts):
    """The lines that a script may name."""
    lines = dict.fromkeys(line for text in texts for line in text)
    return [line for line in lines if 0 < len(line) < 9 and line not in OWN][:12]


def signs_of(texts):
    """The letters that a script may name."""
    return sorted({sign for text in texts for line in text for sign in line})[:6]


def addresses(pairs):
    """The addresses of the family, as words."""
    befores = [before for before, after in pairs]
    plain = ["last"]
    plain += [f"line {number + 1}" for number in range(max(map(len, befores), default=0))]
    plain += [f"is {line}" for line in words_of(befores)]
    plain += [f"has {sign}" for sign in signs_of(befores)]
    return ["all"] + plain + ["not " + address for address in plain]


def deeds(pairs):
    """The deeds of the family, as words."""
    afters = [after for before, after in pairs]
    told = ["delete"]
    told += [f"{verb} {line}" for verb in ("change", "before", "after") for line in words_of(afters)]
    for sign in signs_of([before for before, after in pairs]):
        told += [f"swap {sign} {other}" for other in signs_of(afters) if other != sign]
        told += [f"swap {sign} none"]
    return told


def commands(pairs):
    """The commands of the family, in their one form."""
    return [
        f"{deed} ;\n" if address == "all" else f"if {address} {deed} ;\n"
        for deed in deeds(pairs)
        for address in addresses(pairs)
    ]


def fits(script, pairs):
    """Whether a script fits all examples."""
    return all(run(script, before) == list(after) for before, after in pairs)


def all_useful(pairs):
    """All useful commands, also those behind the first 40."""
    useful = []
    idle = [far(before, after) for before, after in pairs]
    for command in commands(pairs):
        now = [far(run(command, before), after) for before, after in pairs]
        if now != idle and all(new <= old for new, old in zip(now, idle)):
            useful.append(command)
    return useful


def least(scripts, pairs):
    """The least of the scripts that fit, or None."""
    fitting = [script for script in scripts if fits(script, pairs)]
    return sorted(fitting, key=len)[0] if fitting else None


def least_of_two(some, pairs):
    """The least script of two of some commands that fits, or None."""
    return least([one + other for one in some for other in some], pairs)


def found(pairs):
    """The script that is found, or None."""
    if fits("", pairs):
        return ""
    alone = least(commands(pairs), pairs)
    return alone if alone is not None else least_of_two(all_useful(pairs)[:40], pairs)


def all_fitting(pairs):
    """The commands of the family that fit all examples."""
    return [command for command in commands(pairs) if fits(command, pairs)]


def nearest(pairs):
    """How far the nearest command of the family is from all examples, and the first such one."""
    sums = [sum(far_from(command, before, after) for before, after in pairs) for command in commands(pairs)]
    return min(sums), commands(pairs)[sums.index(min(sums))]
