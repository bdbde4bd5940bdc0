"""How well scripts do what examples show."""

from linescriptsyard.distance import how_far
from linescriptsyard.runs import TooMuch, result_of

TOO_MUCH_FAR = 1000


def fits(script, example):
    """Whether a script fits an example."""
    try:
        result = result_of(script, example.before)
    except TooMuch:
        return False
    return result == example.after


def fits_all(script, examples):
    """Whether a script fits all examples."""
    for example in examples:
        if not fits(script, example):
            return False
    return True


def all_fitting(scripts, examples):
    """Those of scripts that fit all examples, in order."""
    return [script for script in scripts if fits_all(script, examples)]


def far_from(script, example):
    """How far a script is from an example."""
    try:
        result = result_of(script, example.before)
    except TooMuch:
        return TOO_MUCH_FAR
    return how_far(result, example.after)


def far_from_all(script, examples):
    """How far a script is from examples, together."""
    return sum([far_from(script, example) for example in examples])


def nearest_of(scripts, examples):
    """The first of scripts that is nearest to all examples together."""
    return min(scripts, key=lambda script: far_from_all(script, examples))
