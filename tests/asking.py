"""Calls put together from texts, and answers taken apart, for the tests."""

from linescriptsyard.examples import answers

SHOWN = [2]
FAMILY = [3]
FIND = [4]
ALL = [5]
NEAREST = [7]


def text(*lines):
    """The bytes of a text of these lines."""
    return list("".join(line + "\n" for line in lines).encode("ascii"))


def raw_example(before, after):
    """The call example with these bytes."""
    return [0, len(before), *before, len(after), *after]


def example(before, after):
    """The call example with texts of these lines."""
    return raw_example(text(*before), text(*after))


def drop(place):
    """The call drop."""
    return [1, place]


def check(script):
    """The call check of a script that is handed in as a text or as bytes."""
    told = script.encode("ascii") if isinstance(script, str) else bytes(script)
    return [6, len(told), *told]


def raw_far(one, other):
    """The call far with these bytes."""
    return [8, len(one), *one, len(other), *other]


def far(one, other):
    """The call far with texts of these lines."""
    return raw_far(text(*one), text(*other))


def apart(told):
    """A list of answers, each with its count ahead, as a list of lists."""
    found = []
    place = 0
    while place < len(told):
        end = place + 1 + told[place]
        assert told[place] >= 1 and end <= len(told), "a count that does not stand for an answer"
        found.append(told[place + 1:end])
        place = end
    return found


def ask(*calls):
    """The answers to these calls on one new object, a list for each."""
    return apart(answers([number for call in calls for number in call]))


def ask_of(pairs, *calls):
    """The answers to these calls on an object that holds these examples."""
    return ask(*[example(before, after) for before, after in pairs], *calls)[len(pairs):]


def found(pairs):
    """What find answers of these examples: the script as a text, or the refusal."""
    answer = ask_of(pairs, FIND)[0]
    if answer[0] < 0:
        assert len(answer) == 1
        return answer[0]
    assert answer[1] == len(answer) - 2
    script = bytes(answer[2:]).decode("ascii")
    assert answer[0] == script.count("\n")
    return script


def checked(script, pairs=()):
    """What check answers of a script where these examples are held."""
    return ask_of(pairs, check(script))[0]


def scripts_in(told):
    """The scripts, each behind how many bytes it has, that these numbers tell, as texts."""
    scripts = []
    while told:
        assert told[0] <= len(told) - 1
        scripts.append(bytes(told[1:1 + told[0]]).decode("ascii"))
        told = told[1 + told[0]:]
    return scripts
