"""A text, a list of bytes, is cut into tokens."""

from bestkept.faults import Fault

MOST_NAME_BYTES = 16
GREATEST_NUMBER = 1000000000
MOST_DIGITS = 10
LETTERS = "ABCDEFGHIJKLMNOPQRSTUVWXYZabcdefghijklmnopqrstuvwxyz"
DIGITS = "0123456789"
SIGNS = ",:;-"
BLANKS = " \t\n"
REMARK = "#"
STRANGE = "?"
WORDS = ("columns", "row", "ask", "times")


class Token:
    """A token's kind, what it tells, its place, and the place behind it.

    The kind is a sign or one of the four words itself, or name, number, end.
    """

    def __init__(self, kind, told, place, behind):
        self.kind = kind
        self.told = told
        self.place = place
        self.behind = behind


def tokens_of(text):
    """All tokens of a text, the text's end as the last one."""
    signs = as_signs(text)
    tokens = []
    place = past_blanks(signs, 0)
    while place < len(signs):
        token = token_at(signs, place)
        tokens.append(token)
        place = past_blanks(signs, token.behind)
    tokens.append(Token("end", "", place, place))
    return tokens


def as_signs(text):
    """The bytes as a Python text of the same length."""
    known = {}
    for sign in LETTERS + DIGITS + SIGNS + BLANKS + REMARK:
        known[ord(sign)] = sign
    # Bytes that begin no token are alike: they matter by their place alone.
    return "".join([known.get(byte, STRANGE) for byte in text])


def past_blanks(signs, place):
    """The first place from this one on that's in no blank and no remark."""
    while place < len(signs):
        if signs[place] == REMARK:
            place = remark_end(signs, place)
        elif signs[place] in BLANKS:
            place += 1
        else:
            break
    return place


def remark_end(signs, place):
    """Where a remark ends that begins at this place."""
    line_end = signs.find("\n", place)
    return len(signs) if line_end < 0 else line_end


def token_at(signs, place):
    """The token that begins at this place."""
    first = signs[place]
    if first in SIGNS:
        return Token(first, first, place, place + 1)
    if first in DIGITS:
        return number_at(signs, place)
    if first in LETTERS:
        return name_at(signs, place)
    raise Fault(2, place)


def number_at(signs, place):
    """The number that begins at this place."""
    behind = run_end(signs, place, DIGITS)
    digits = signs[place:behind]
    if not is_number(digits):
        raise Fault(2, place)
    return Token("number", int(digits), place, behind)


def is_number(digits):
    """Whether digits are a number: no needless zero, and not too great."""
    if digits[0] == "0":
        return len(digits) == 1
    return len(digits) <= MOST_DIGITS and int(digits) <= GREATEST_NUMBER


def name_at(signs, place):
    """The name, or one of the four words, that begins at this place."""
    behind = run_end(signs, place, LETTERS + DIGITS)
    if behind - place > MOST_NAME_BYTES:
        raise Fault(2, place)
    name = signs[place:behind]
    kind = name if name in WORDS else "name"
    return Token(kind, name, place, behind)


def run_end(signs, place, allowed):
    """The place behind the allowed signs that stand from this place on."""
    while place < len(signs) and signs[place] in allowed:
        place += 1
    return place
