"""Commands of scripts, and the one form in which a script is told.

An address is a tuple of its words and numbers, in the order in which they
are told: ("all",), ("line", 2), ("from", 2, "to", 5), ("last",), ("has", "a"),
("is", "ab") or ("not", an address). A deed is such a tuple, too: ("delete",),
("change", "ab"), ("swap", "a", "b"), ("skip", 2) and the like, where no
letters ("") are told as none. A script is a list of commands.
"""

from linescriptsyard.texts import bytes_of

OWN_WORDS = (
    "if", "all", "line", "from", "to", "last", "has", "is", "not", "delete", "before", "after",
    "change", "swap", "first", "keep", "bring", "trade", "skip", "stop", "none",
)


class Command:
    """A deed, and the address of the lines on which it is done."""

    def __init__(self, address, deed):
        self.address = address
        self.deed = deed


def told_address(address):
    """An address as words."""
    if address[0] == "not":
        return "not " + told_address(address[1])
    return " ".join([str(word) for word in address])


def told_deed(deed):
    """A deed as words."""
    return " ".join([str(word) or "none" for word in deed])


def told_command(command):
    """A command as the line that the one form has for it."""
    deed = told_deed(command.deed)
    if command.address == ("all",):
        return f"{deed} ;\n"
    address = told_address(command.address)
    return f"if {address} {deed} ;\n"


def one_form(script):
    """The one form of a script."""
    return "".join([told_command(command) for command in script])


def told_script(script):
    """A script told as bytes: how many its one form has, and they."""
    told = bytes_of(one_form(script))
    return [len(told)] + told
