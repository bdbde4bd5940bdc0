"""Scripts read from bytes."""

from linescriptsyard.faults import NOT_ALLOWED, OUT_OF_BOUNDS, TOO_LONG, TOO_MANY, Fault
from linescriptsyard.scripts import OWN_WORDS, Command
from linescriptsyard.tokens import tokens_of

BYTES_AT_MOST = 4096
COMMANDS_AT_MOST = 16
NOTS_AT_MOST = 3
GREATEST_LINE = 99
GREATEST_SKIP = 9


class TokenReader:
    """The tokens of a script, and how many of them are read."""

    def __init__(self, tokens):
        self.tokens = tokens
        self.place = 0

    def coming(self):
        """The token that stands next."""
        return self.tokens[self.place]

    def read_token(self):
        """The token that stands next, which is read by this."""
        token = self.coming()
        self.place += 1
        return token


def read_told(reader, told):
    """Read the one token that may stand next."""
    token = reader.read_token()
    if token.told != told:
        raise Fault(NOT_ALLOWED, token.place)


def read_letters(reader):
    """The letters that have to stand next."""
    token = reader.read_token()
    if not token.told.isalpha() or token.told in OWN_WORDS:
        raise Fault(NOT_ALLOWED, token.place)
    return token.told


def read_letters_or_none(reader):
    """The letters that have to stand next, or none of them in the place of none."""
    if reader.coming().told == "none":
        reader.read_token()
        return ""
    return read_letters(reader)


def read_bounded(reader, least, greatest):
    """The number, within its bounds, that has to stand next."""
    token = reader.read_token()
    if not token.told.isdigit():
        raise Fault(NOT_ALLOWED, token.place)
    number = int(token.told)
    if number < least or number > greatest:
        raise Fault(OUT_OF_BOUNDS, token.place)
    return number


def read_plain_address(reader):
    """The address without a not that has to stand next."""
    token = reader.read_token()
    if token.told in ("all", "last"):
        return (token.told,)
    if token.told in ("has", "is"):
        return (token.told, read_letters(reader))
    if token.told == "line":
        return ("line", read_bounded(reader, 1, GREATEST_LINE))
    if token.told == "from":
        number = read_bounded(reader, 1, GREATEST_LINE)
        read_told(reader, "to")
        return ("from", number, "to", read_bounded(reader, number, GREATEST_LINE))
    raise Fault(NOT_ALLOWED, token.place)


def read_address(reader):
    """The address that has to stand next."""
    nots = 0
    while reader.coming().told == "not":
        token = reader.read_token()
        if nots == NOTS_AT_MOST:
            raise Fault(TOO_MANY, token.place)
        nots += 1
    address = read_plain_address(reader)
    while nots > 0:
        address = ("not", address)
        nots -= 1
    return address


def read_deed(reader):
    """The deed that has to stand next."""
    token = reader.read_token()
    if token.told in ("delete", "keep", "bring", "trade", "stop"):
        return (token.told,)
    if token.told in ("before", "after", "change"):
        return (token.told, read_letters(reader))
    if token.told in ("swap", "first"):
        letters = read_letters(reader)
        return (token.told, letters, read_letters_or_none(reader))
    if token.told == "skip":
        return ("skip", read_bounded(reader, 1, GREATEST_SKIP))
    raise Fault(NOT_ALLOWED, token.place)


def read_command(reader):
    """The command that has to stand next."""
    address = ("all",)
    if reader.coming().told == "if":
        reader.read_token()
        address = read_address(reader)
    deed = read_deed(reader)
    read_told(reader, ";")
    return Command(address, deed)


def read_script(told):
    """The commands of a script that is told as bytes."""
    if len(told) > BYTES_AT_MOST:
        raise Fault(TOO_LONG, BYTES_AT_MOST)
    reader = TokenReader(tokens_of(told))
    script = []
    while reader.coming().told != "":
        if len(script) == COMMANDS_AT_MOST:
            raise Fault(TOO_MANY, reader.coming().place)
        script.append(read_command(reader))
    return script
