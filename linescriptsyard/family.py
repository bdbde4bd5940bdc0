"""The family: the commands that are made of what stands in the examples."""

from linescriptsyard.scripts import OWN_WORDS, Command
from linescriptsyard.texts import ALPHABET

WORD_LETTERS_AT_MOST = 8
LINES_AT_MOST = 12
LETTERS_AT_MOST = 6


def may_be_letters(line):
    """Whether a line can stand in a script as letters."""
    return 1 <= len(line) <= WORD_LETTERS_AT_MOST and line not in OWN_WORDS


def lines_of(texts):
    """The first lines of texts, each once, that may be letters."""
    lines = []
    for text in texts:
        for line in text:
            if may_be_letters(line) and line not in lines:
                lines.append(line)
    return lines[:LINES_AT_MOST]


def letters_of(texts):
    """The first letters, from a to z, that stand in texts."""
    written = "".join(["".join(text) for text in texts])
    return [letter for letter in ALPHABET if letter in written][:LETTERS_AT_MOST]


def addresses_of(examples):
    """The addresses of the family, in order."""
    befores = [example.before for example in examples]
    most_lines = max([len(text) for text in befores], default=0)
    plain = [("last",)]
    plain.extend([("line", number) for number in range(1, most_lines + 1)])
    plain.extend([("is", line) for line in lines_of(befores)])
    plain.extend([("has", letter) for letter in letters_of(befores)])
    return [("all",)] + plain + [("not", address) for address in plain]


def swaps_of(examples):
    """The swaps of the family, in order."""
    letters_after = letters_of([example.after for example in examples])
    swaps = []
    for letter in letters_of([example.before for example in examples]):
        swaps.extend([("swap", letter, other) for other in letters_after if other != letter])
        swaps.append(("swap", letter, ""))
    return swaps


def deeds_of(examples):
    """The deeds of the family, in order."""
    lines_after = lines_of([example.after for example in examples])
    deeds = [("delete",)]
    for kind in ("change", "before", "after"):
        deeds.extend([(kind, line) for line in lines_after])
    return deeds + swaps_of(examples)


def commands_of(examples):
    """The commands of the family, in order."""
    addresses = addresses_of(examples)
    commands = []
    for deed in deeds_of(examples):
        commands.extend([Command(address, deed) for address in addresses])
    return commands


def single_scripts_of(examples):
    """The scripts of one command of the family, in order."""
    return [[command] for command in commands_of(examples)]
