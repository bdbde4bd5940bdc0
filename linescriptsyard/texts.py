"""Texts of lines: read from bytes, and told as bytes again."""

ALPHABET = "abcdefghijklmnopqrstuvwxyz"
FIRST_LETTER = 97
LINE_END = 10
LETTERS_AT_MOST = 16
LINES_AT_MOST = 24


class NotAText(ValueError):
    """Bytes that tell no text of lines."""


def letter_of(byte):
    """The letter that a byte stands for."""
    place = byte - FIRST_LETTER
    if place < 0 or place >= len(ALPHABET):
        raise NotAText("a byte that is neither a letter nor a line's end")
    return ALPHABET[place]


def read_text(told):
    """The lines, without their ends, of a text that is told as bytes."""
    lines = []
    line = ""
    for byte in told:
        if byte == LINE_END:
            lines.append(line)
            line = ""
        else:
            line += letter_of(byte)
        if len(line) > LETTERS_AT_MOST or len(lines) > LINES_AT_MOST:
            raise NotAText("a line or a text that is too long")
    if line:
        raise NotAText("a last line that is not ended")
    return lines


def bytes_of(signs):
    """The bytes of plain signs."""
    return [ord(sign) for sign in signs]


def told_text(lines):
    """A text told as bytes: how many, and they."""
    told = bytes_of("".join([line + "\n" for line in lines]))
    return [len(told)] + told
