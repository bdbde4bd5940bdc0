"""Runs: what comes of a text when a script runs over it.

Nothing here looks whether a result is too much, as nothing that the family
holds can make it so: it changes a line into one of at most 8 letters, swaps
single letters only, and two commands put at most two lines beside each of
the at most 6 lines of a text of before.
"""


class Line:
    """A line of a text, while the commands of a script are done on it."""

    def __init__(self, letters, number, is_last):
        self.letters = letters
        self.number = number
        self.is_last = is_last
        self.comes = True
        self.ahead = []
        self.behind = []


def plain_address_holds(address, line):
    """Whether an address without a not holds for a line as it is by now."""
    kind = address[0]
    if kind == "all":
        return True
    if kind == "last":
        return line.is_last
    if kind == "line":
        return line.number == address[1]
    if kind == "is":
        return line.letters == address[1]
    return address[1] in line.letters


def address_holds(address, line):
    """Whether an address holds for a line as it is by now."""
    if address[0] == "not":
        return not address_holds(address[1], line)
    return plain_address_holds(address, line)


def do_deed(deed, line):
    """Do one deed on a line."""
    kind = deed[0]
    if kind == "delete":
        line.comes = False
    elif kind == "change":
        line.letters = deed[1]
    elif kind == "before":
        line.ahead.append(deed[1])
    elif kind == "after":
        line.behind.append(deed[1])
    else:
        line.letters = line.letters.replace(deed[1], deed[2])


def do_script(script, line):
    """Do the commands of a script on a line, in order, until it is deleted."""
    for command in script:
        if address_holds(command.address, line):
            do_deed(command.deed, line)
        if not line.comes:
            return


def result_of(script, text):
    """The lines that come when a script runs over a text."""
    result = []
    for number, letters in enumerate(text, start=1):
        line = Line(letters, number, number == len(text))
        do_script(script, line)
        result.extend(line.ahead)
        if line.comes:
            result.append(line.letters)
        result.extend(line.behind)
    return result
