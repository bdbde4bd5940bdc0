"""Calls put together from texts, and answers taken apart, for the tests."""

from linescriptsyard.examples import answers

SHOWN = [2]
FAMILY = [3]
FIND = [4]


def text(*lines):
    """The bytes of a text of these lines."""
    return list("".join(line + "\n" for line in lines).encode("ascii"))


def raw_example(before, after):
    """The call example with these bytes."""
    return [0, len(before), *before, len(after), *after]


def example(before, after):
    """The call example with texts of these lines."""
    return raw_example(text(*before), text(*after))


def drop(place):
    """The call drop."""
    return [1, place]


def apart(told):
    """A list of answers, each with its count ahead, as a list of lists."""
    found = []
    place = 0
    while place < len(told):
        end = place + 1 + told[place]
        assert told[place] >= 1 and end <= len(told), "a count that does not stand for an answer"
        found.append(told[place + 1:end])
        place = end
    return found


def ask(*calls):
    """The answers to these calls on one new object, a list for each."""
    return apart(answers([number for call in calls for number in call]))


def ask_of(pairs, *calls):
    """The answers to these calls on an object that holds these examples."""
    return ask(*[example(before, after) for before, after in pairs], *calls)[len(pairs):]


def found(pairs):
    """What find answers of these examples: the script as a text, or the refusal."""
    answer = ask_of(pairs, FIND)[0]
    if answer[0] < 0:
        assert len(answer) == 1
        return answer[0]
    assert answer[1] == len(answer) - 2
    script = bytes(answer[2:]).decode("ascii")
    assert answer[0] == script.count("\n")
    return script
