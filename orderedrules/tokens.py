"""Texts as lists of bytes, cut into tokens.

A token is (kind, detail, place). The kind is "word", "unknown" or "number", with the
word, the unknown or the number as its detail; or a reserved word; or a sign; or "end",
which stands once, behind the last token.
"""

LONGEST_TEXT = 3000
LONGEST_NAME = 10
LONGEST_NUMBER = 9
BLANKS = (32, 10)
RESERVED = ("rule", "keep", "take", "if", "put", "fail", "level")

# The bytes of a sign, and how its kind is called. The sign of the byte 37 is called mod.
SIGNS = {
    (40,): "(", (41,): ")", (123,): "{", (125,): "}", (44,): ",", (59,): ";",
    (43,): "+", (45,): "-", (42,): "*", (47,): "/", (37,): "mod",
    (61,): "=", (60,): "<", (60, 61): "<=", (60, 62): "<>",
}

# The letters of the bytes 48 to 122: those of names, and the ones between them.
FIRST_LETTER = 48
LETTERS = "0123456789:;<=>?@ABCDEFGHIJKLMNOPQRSTUVWXYZ[\\]^_`abcdefghijklmnopqrstuvwxyz"


class Fault(Exception):
    """A fault that ends the reading of a text."""

    def __init__(self, number, place):
        self.number = number
        self.place = place


def is_digit(byte):
    return 48 <= byte <= 57


def is_small(byte):
    return 97 <= byte <= 122


def is_letter(byte):
    return is_small(byte) or 65 <= byte <= 90


def is_letter_or_digit(byte):
    return is_letter(byte) or is_digit(byte)


def end_of_row(text, place, belongs, longest):
    end = place
    while end < len(text) and belongs(text[end]):
        end += 1
    if end - place > longest:
        raise Fault(2, place)
    return end


def end_of_sign(text, place):
    for end in (place + 2, place + 1):
        if tuple(text[place:end]) in SIGNS:
            return end
    raise Fault(1, place)


def end_of_token(text, place):
    if is_letter(text[place]):
        return end_of_row(text, place, is_letter_or_digit, LONGEST_NAME)
    if is_digit(text[place]):
        return end_of_row(text, place, is_digit, LONGEST_NUMBER)
    return end_of_sign(text, place)


def number_of(digits):
    number = 0
    for byte in digits:
        number = number * 10 + byte - 48
    return number


def token_of(piece, place):
    if is_digit(piece[0]):
        return ("number", number_of(piece), place)
    if not is_letter(piece[0]):
        return (SIGNS[tuple(piece)], None, place)
    name = "".join([LETTERS[byte - FIRST_LETTER] for byte in piece])
    if name in RESERVED:
        return (name, None, place)
    if is_small(piece[0]):
        return ("word", name, place)
    return ("unknown", name, place)


def cut(text):
    """The tokens of a text; raises the first fault 1 or 2."""
    tokens = []
    place = 0
    while place < len(text):
        if text[place] in BLANKS:
            place += 1
        else:
            end = end_of_token(text, place)
            tokens.append(token_of(text[place:end], place))
            place = end
    tokens.append(("end", None, len(text)))
    return tokens
