"""Tokens of scripts: words, numbers, the one sign, and the end."""

from linescriptsyard.faults import NO_TOKEN, Fault
from linescriptsyard.texts import ALPHABET, FIRST_LETTER

DIGITS = "0123456789"
FIRST_DIGIT = 48
SEMICOLON = 59
REMARK_START = 35
REMARK_END = 10
BLANKS = (32, 9, 10)
WORD_LETTERS_AT_MOST = 8
GREATEST_NUMBER = 1000000000


class Token:
    """A token as its signs (the end has none), and the place of its first byte."""

    def __init__(self, told, place):
        self.told = told
        self.place = place


def remark_end(script, place):
    """Where the remark that begins at a place ends."""
    while place < len(script) and script[place] != REMARK_END:
        place += 1
    return place


def token_start(script, place):
    """The first place from this one on where neither a blank nor a remark stands."""
    while place < len(script):
        if script[place] == REMARK_START:
            place = remark_end(script, place)
        elif script[place] in BLANKS:
            place += 1
        else:
            return place
    return place


def signs_at(script, place, signs, first):
    """Those of some signs, told as this byte and the next ones, that stand from a place on, as far as they go."""
    found = ""
    while place < len(script) and 0 <= script[place] - first < len(signs):
        found += signs[script[place] - first]
        place += 1
    return found


def is_word(letters):
    """Whether small letters are a word."""
    return 1 <= len(letters) <= WORD_LETTERS_AT_MOST


def is_number(digits):
    """Whether digits are a number."""
    if not 1 <= len(digits) <= len(str(GREATEST_NUMBER)):
        return False
    return int(digits) <= GREATEST_NUMBER and str(int(digits)) == digits


def token_at(script, place):
    """The token that begins at a place."""
    if script[place] == SEMICOLON:
        return Token(";", place)
    letters = signs_at(script, place, ALPHABET, FIRST_LETTER)
    if is_word(letters):
        return Token(letters, place)
    digits = signs_at(script, place, DIGITS, FIRST_DIGIT)
    if is_number(digits):
        return Token(digits, place)
    raise Fault(NO_TOKEN, place)


def tokens_of(script):
    """The tokens of a script that is told as bytes, in order; the end is the last one."""
    tokens = []
    place = token_start(script, 0)
    while place < len(script):
        token = token_at(script, place)
        tokens.append(token)
        place = token_start(script, place + len(token.told))
    tokens.append(Token("", place))
    return tokens
