"""The least script of the family that fits all examples."""

from linescriptsyard.family import commands_of, single_scripts_of
from linescriptsyard.fitting import all_fitting, far_from, fits_all
from linescriptsyard.scripts import one_form

USEFUL_AT_MOST = 40


class NothingFound(LookupError):
    """No script of the family's is found that fits all examples."""


def is_useful(command, examples, distances):
    """Whether a command is farther from no example than these distances, and nearer to one."""
    is_nearer = False
    for example, distance in zip(examples, distances):
        far = far_from([command], example)
        if far > distance:
            return False
        if far < distance:
            is_nearer = True
    return is_nearer


def useful_commands(examples):
    """The first useful commands of the family, in order."""
    distances = [far_from([], example) for example in examples]
    useful = []
    for command in commands_of(examples):
        if is_useful(command, examples, distances):
            useful.append(command)
        if len(useful) == USEFUL_AT_MOST:
            break
    return useful


def form_size(script):
    """How many bytes the one form of a script has."""
    return len(one_form(script))


def least_fitting(scripts, examples):
    """Of scripts that fit all examples the first with the fewest bytes, or None."""
    return min(all_fitting(scripts, examples), key=form_size, default=None)


def pairs_of(commands):
    """The scripts of two of these commands, in order."""
    pairs = []
    for command in commands:
        pairs.extend([[command, other] for other in commands])
    return pairs


def found_script(examples):
    """The script that is found for examples."""
    if fits_all([], examples):
        return []
    least = least_fitting(single_scripts_of(examples), examples)
    if least is None:
        least = least_fitting(pairs_of(useful_commands(examples)), examples)
    if least is None:
        raise NothingFound("no script of the family fits all examples")
    return least
