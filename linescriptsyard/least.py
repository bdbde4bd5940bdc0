"""The least script of the family that fits all examples."""

from linescriptsyard.distance import how_far
from linescriptsyard.family import commands_of
from linescriptsyard.runs import result_of
from linescriptsyard.scripts import one_form

USEFUL_AT_MOST = 40


class NothingFound(LookupError):
    """No script of the family's is found that fits all examples."""


def fits_all(script, examples):
    """Whether a script fits all examples."""
    for example in examples:
        if result_of(script, example.before) != example.after:
            return False
    return True


def is_useful(command, examples, distances):
    """Whether a command is farther from no example than its text of before is, and nearer to one."""
    is_nearer = False
    for example, distance in zip(examples, distances):
        far = how_far(result_of([command], example.before), example.after)
        if far > distance:
            return False
        if far < distance:
            is_nearer = True
    return is_nearer


def useful_commands(examples):
    """The first useful commands of the family, in order."""
    distances = [how_far(example.before, example.after) for example in examples]
    useful = []
    for command in commands_of(examples):
        if is_useful(command, examples, distances):
            useful.append(command)
        if len(useful) == USEFUL_AT_MOST:
            break
    return useful


def form_size(script):
    """How many bytes the one form of a script has."""
    return len(one_form(script))


def least_fitting(scripts, examples):
    """Of scripts that fit all examples the first with the fewest bytes, or None."""
    fitting = [script for script in scripts if fits_all(script, examples)]
    return min(fitting, key=form_size, default=None)


def pairs_of(commands):
    """The scripts of two of these commands, in order."""
    pairs = []
    for command in commands:
        pairs.extend([[command, other] for other in commands])
    return pairs


def found_script(examples):
    """The script that is found for examples."""
    if fits_all([], examples):
        return []
    least = least_fitting([[command] for command in commands_of(examples)], examples)
    if least is None:
        least = least_fitting(pairs_of(useful_commands(examples)), examples)
    if least is None:
        raise NothingFound("no script of the family fits all examples")
    return least
