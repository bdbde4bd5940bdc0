"""The calls on one object that holds examples, and what they answer."""

from linescriptsyard.family import addresses_of, commands_of, deeds_of
from linescriptsyard.least import NothingFound, found_script, useful_commands
from linescriptsyard.reading import CallReader
from linescriptsyard.scripts import told_script
from linescriptsyard.texts import NotAText, read_text, told_text

EXAMPLES_AT_MOST = 4
EXAMPLE_LINES_AT_MOST = 6

NO_SUCH_EXAMPLE = -2
NOT_A_TEXT = -4
NO_ROOM = -7
NOTHING_FOUND = -8


class Example:
    """A text of before and a text of after."""

    def __init__(self, before, after):
        self.before = before
        self.after = after


def read_example_text(told):
    """The lines of a text of an example that is told as bytes."""
    lines = read_text(told)
    if len(lines) > EXAMPLE_LINES_AT_MOST:
        raise NotAText("a text that is too long for an example")
    return lines


def answer_example(held, reader):
    """Put an example behind the others."""
    told_before = reader.read_row()
    told_after = reader.read_row()
    try:
        example = Example(read_example_text(told_before), read_example_text(told_after))
    except NotAText:
        return [NOT_A_TEXT]
    if len(held) == EXAMPLES_AT_MOST:
        return [NO_ROOM]
    held.append(example)
    return [len(held)]


def answer_drop(held, reader):
    """Take an example out."""
    place = reader.read_number()
    if place < 0 or place >= len(held):
        return [NO_SUCH_EXAMPLE]
    held.pop(place)
    return [len(held)]


def answer_shown(held, reader):
    """Tell the examples."""
    answer = [len(held)]
    for example in held:
        answer.extend(told_text(example.before))
        answer.extend(told_text(example.after))
    return answer


def answer_family(held, reader):
    """Tell how many addresses, deeds, commands and useful commands there are."""
    return [len(addresses_of(held)), len(deeds_of(held)), len(commands_of(held)), len(useful_commands(held))]


def answer_find(held, reader):
    """Tell the script that is found."""
    try:
        script = found_script(held)
    except NothingFound:
        return [NOTHING_FOUND]
    return [len(script)] + told_script(script)


# By the number of the call.
CALLS = (answer_example, answer_drop, answer_shown, answer_family, answer_find)


def answers(calls):
    """What a list of calls on one new object is answered, as a list of numbers."""
    reader = CallReader(calls)
    held = []
    told = []
    while reader.has_more():
        answer = CALLS[reader.read_number()](held, reader)
        told.append(len(answer))
        told.extend(answer)
    return told
