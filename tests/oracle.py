"""What the document says, written a second time and plainly: scripts are texts here.

Slow on purpose: every script that the document speaks of is tried, and what
two texts have in common is found by trying every choice of lines.
"""

from itertools import combinations

OWN = ("if all line from to last has is not delete before after change swap first keep bring "
       "trade skip stop none").split()


def holds(words, line, number, count):
    """Whether the address made of these words holds."""
    if words[0] == "not":
        return not holds(words[1:], line, number, count)
    return {
        "all": lambda: True,
        "last": lambda: number == count,
        "line": lambda: number == int(words[1]),
        "is": lambda: line == words[1],
        "has": lambda: words[1] in line,
    }[words[0]]()


def parted(command):
    """The words of a command's address and of its deed."""
    words = command.split()
    assert words.pop() == ";"
    if words[0] != "if":
        return ["all"], words
    for place, word in enumerate(words):
        if word in ("delete", "change", "before", "after", "swap"):
            return words[1:place], words[place:]
    raise AssertionError(command)


def run(script, lines):
    """What comes of these lines."""
    commands = [parted(command) for command in script.splitlines()]
    out = []
    for number, line in enumerate(lines, start=1):
        ahead, behind, stays = [], [], True
        for address, deed in commands:
            if not stays or not holds(address, line, number, len(lines)):
                continue
            if deed[0] == "delete":
                stays = False
            elif deed[0] == "change":
                line = deed[1]
            elif deed[0] == "before":
                ahead = ahead + [deed[1]]
            elif deed[0] == "after":
                behind = behind + [deed[1]]
            else:
                line = ("" if deed[2] == "none" else deed[2]).join(line.split(deed[1]))
        out += ahead + [line] * stays + behind
    return out


def is_within(some, lines):
    """Whether some lines stand in these lines in order."""
    rest = iter(lines)
    return all(line in rest for line in some)


def far(one, other):
    """How far two texts are from each other."""
    for size in range(len(one), -1, -1):
        if any(is_within(some, other) for some in combinations(one, size)):
            return len(one) + len(other) - 2 * size
    raise AssertionError


def words_of(texts):
    """The lines that a script may name."""
    lines = dict.fromkeys(line for text in texts for line in text)
    return [line for line in lines if 0 < len(line) < 9 and line not in OWN][:12]


def signs_of(texts):
    """The letters that a script may name."""
    return sorted({sign for text in texts for line in text for sign in line})[:6]


def addresses(pairs):
    """The addresses of the family, as words."""
    befores = [before for before, after in pairs]
    plain = ["last"]
    plain += [f"line {number + 1}" for number in range(max(map(len, befores), default=0))]
    plain += [f"is {line}" for line in words_of(befores)]
    plain += [f"has {sign}" for sign in signs_of(befores)]
    return ["all"] + plain + ["not " + address for address in plain]


def deeds(pairs):
    """The deeds of the family, as words."""
    afters = [after for before, after in pairs]
    told = ["delete"]
    told += [f"{verb} {line}" for verb in ("change", "before", "after") for line in words_of(afters)]
    for sign in signs_of([before for before, after in pairs]):
        told += [f"swap {sign} {other}" for other in signs_of(afters) if other != sign]
        told += [f"swap {sign} none"]
    return told


def commands(pairs):
    """The commands of the family, in their one form."""
    return [
        f"{deed} ;\n" if address == "all" else f"if {address} {deed} ;\n"
        for deed in deeds(pairs)
        for address in addresses(pairs)
    ]


def fits(script, pairs):
    """Whether a script fits all examples."""
    return all(run(script, before) == list(after) for before, after in pairs)


def all_useful(pairs):
    """All useful commands, also those behind the first 40."""
    useful = []
    idle = [far(before, after) for before, after in pairs]
    for command in commands(pairs):
        now = [far(run(command, before), after) for before, after in pairs]
        if now != idle and all(new <= old for new, old in zip(now, idle)):
            useful.append(command)
    return useful


def least(scripts, pairs):
    """The least of the scripts that fit, or None."""
    fitting = [script for script in scripts if fits(script, pairs)]
    return sorted(fitting, key=len)[0] if fitting else None


def least_of_two(some, pairs):
    """The least script of two of some commands that fits, or None."""
    return least([one + other for one in some for other in some], pairs)


def found(pairs):
    """The script that is found, or None."""
    if fits("", pairs):
        return ""
    alone = least(commands(pairs), pairs)
    return alone if alone is not None else least_of_two(all_useful(pairs)[:40], pairs)
