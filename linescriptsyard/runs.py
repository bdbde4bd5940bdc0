"""Runs: what comes of a text when a script runs over it."""

from linescriptsyard.texts import LETTERS_AT_MOST

RESULT_LINES_AT_MOST = 60


class TooMuch(ValueError):
    """A line gets too many letters, or too many lines come."""


class Line:
    """A line of a text, and the held line, while the commands of a script are done on it."""

    def __init__(self, letters, held, number, is_last):
        self.letters = letters
        self.held = held
        self.number = number
        self.is_last = is_last
        self.comes = True
        self.is_over = False
        self.left_out = 0
        self.ahead = []
        self.behind = []


def plain_address_holds(address, line):
    """Whether an address without a not holds for a line as it is by now."""
    kind = address[0]
    if kind == "all":
        return True
    if kind == "last":
        return line.is_last
    if kind == "line":
        return line.number == address[1]
    if kind == "from":
        return address[1] <= line.number <= address[3]
    if kind == "is":
        return line.letters == address[1]
    return address[1] in line.letters


def address_holds(address, line):
    """Whether an address holds for a line as it is by now."""
    if address[0] == "not":
        return not address_holds(address[1], line)
    return plain_address_holds(address, line)


def of_a_line(letters):
    """These letters, if a line may have so many."""
    if len(letters) > LETTERS_AT_MOST:
        raise TooMuch("a line gets too many letters")
    return letters


def do_letters_deed(deed, line):
    """Do a deed that changes the line's letters, or the held line."""
    kind = deed[0]
    if kind == "change":
        line.letters = deed[1]
    elif kind == "swap":
        line.letters = of_a_line(line.letters.replace(deed[1], deed[2]))
    elif kind == "first":
        line.letters = of_a_line(line.letters.replace(deed[1], deed[2], 1))
    elif kind == "keep":
        line.held = line.letters
    else:
        held = line.held
        line.held = line.letters
        line.letters = held


def do_deed(deed, line):
    """Do one deed on a line."""
    kind = deed[0]
    if kind == "delete":
        line.comes = False
        line.is_over = True
    elif kind == "stop":
        line.is_over = True
    elif kind == "skip":
        line.left_out = deed[1]
    elif kind == "before":
        line.ahead.append(deed[1])
    elif kind == "after":
        line.behind.append(deed[1])
    elif kind == "bring":
        line.behind.append(line.held)
    else:
        do_letters_deed(deed, line)


def do_script(script, line):
    """Do the commands of a script on a line, in order, until no more are done on it."""
    for command in script:
        if line.left_out > 0:
            line.left_out -= 1
        elif address_holds(command.address, line):
            do_deed(command.deed, line)
        if line.is_over:
            return


def lines_that_come(line):
    """What comes of a line on which the commands are done."""
    if line.comes:
        return line.ahead + [line.letters] + line.behind
    return line.ahead + line.behind


def result_of(script, text):
    """The lines that come when a script runs over a text."""
    result = []
    held = ""
    for number, letters in enumerate(text, start=1):
        line = Line(letters, held, number, number == len(text))
        do_script(script, line)
        held = line.held
        result.extend(lines_that_come(line))
    if len(result) > RESULT_LINES_AT_MOST:
        raise TooMuch("too many lines come")
    return result
