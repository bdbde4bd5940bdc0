"""The calls on one object that holds examples, and what they answer."""

from linescriptsyard.distance import how_far, lines_in_common
from linescriptsyard.family import addresses_of, commands_of, deeds_of, single_scripts_of
from linescriptsyard.faults import Fault
from linescriptsyard.fitting import all_fitting, far_from, far_from_all, fits, nearest_of
from linescriptsyard.least import NothingFound, found_script, useful_commands
from linescriptsyard.parsing import read_script
from linescriptsyard.reading import CallReader
from linescriptsyard.scripts import told_script
from linescriptsyard.texts import NotAText, read_text, told_text

EXAMPLES_AT_MOST = 4
EXAMPLE_LINES_AT_MOST = 6
FITTING_TOLD_AT_MOST = 10

NO_SUCH_EXAMPLE = -2
NOT_A_TEXT = -4
NO_ROOM = -7
NOTHING_FOUND = -8


class Example:
    """A text of before and a text of after."""

    def __init__(self, before, after):
        self.before = before
        self.after = after


def read_example_text(told):
    """The lines of a text of an example that is told as bytes."""
    lines = read_text(told)
    if len(lines) > EXAMPLE_LINES_AT_MOST:
        raise NotAText("a text that is too long for an example")
    return lines


def answer_example(held, reader):
    """Put an example behind the others."""
    told_before = reader.read_row()
    told_after = reader.read_row()
    try:
        example = Example(read_example_text(told_before), read_example_text(told_after))
    except NotAText:
        return [NOT_A_TEXT]
    if len(held) == EXAMPLES_AT_MOST:
        return [NO_ROOM]
    held.append(example)
    return [len(held)]


def answer_drop(held, reader):
    """Take an example out."""
    place = reader.read_number()
    if place < 0 or place >= len(held):
        return [NO_SUCH_EXAMPLE]
    held.pop(place)
    return [len(held)]


def answer_shown(held, reader):
    """Tell the examples."""
    answer = [len(held)]
    for example in held:
        answer.extend(told_text(example.before))
        answer.extend(told_text(example.after))
    return answer


def answer_family(held, reader):
    """Tell how many addresses, deeds, commands and useful commands there are."""
    return [len(addresses_of(held)), len(deeds_of(held)), len(commands_of(held)), len(useful_commands(held))]


def answer_find(held, reader):
    """Tell the script that is found."""
    try:
        script = found_script(held)
    except NothingFound:
        return [NOTHING_FOUND]
    return [len(script)] + told_script(script)


def answer_all(held, reader):
    """Tell how many scripts of one command fit all examples, and the first of them."""
    fitting = all_fitting(single_scripts_of(held), held)
    answer = [len(fitting)]
    for script in fitting[:FITTING_TOLD_AT_MOST]:
        answer.extend(told_script(script))
    return answer


def answer_check(held, reader):
    """Tell how far a script is from the examples, or what is not right with it."""
    told = reader.read_row()
    try:
        script = read_script(told)
    except Fault as fault:
        return [0, fault.code, fault.place]
    fitted = [example for example in held if fits(script, example)]
    return [1, len(fitted)] + [far_from(script, example) for example in held]


def answer_nearest(held, reader):
    """Tell the script of one command that is nearest to all examples together."""
    script = nearest_of(single_scripts_of(held), held)
    return [far_from_all(script, held)] + told_script(script)


def answer_far(held, reader):
    """Tell how far two texts are from each other."""
    told_one = reader.read_row()
    told_other = reader.read_row()
    try:
        one = read_text(told_one)
        other = read_text(told_other)
    except NotAText:
        return [NOT_A_TEXT]
    return [how_far(one, other), lines_in_common(one, other)]


# By the number of the call.
CALLS = (
    answer_example, answer_drop, answer_shown, answer_family, answer_find,
    answer_all, answer_check, answer_nearest, answer_far,
)


def answers(calls):
    """What a list of calls on one new object is answered, as a list of numbers."""
    reader = CallReader(calls)
    held = []
    told = []
    while reader.has_more():
        answer = CALLS[reader.read_number()](held, reader)
        told.append(len(answer))
        told.extend(answer)
    return told
