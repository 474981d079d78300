"""Leaf kinds and their literals.

A literal's value is a whole number or, of a text, the tuple of its bytes:
Python compares these in the order of literals.
"""

from sortedruns.reader import WrongForm
from sortedruns.signs import BACKSLASH, BIT, FIRST_PLAIN, LAST_PLAIN, MINUS, QUOTE
from sortedruns.signs import SMALL_A, SMALL_F, TEXT, WHOLE, ZERO, is_digit


class LeafKind:
    def __init__(self, letter, size):
        self.letter = letter
        self.size = size


def read_number(reader, most):
    starts_with_zero = reader.ahead() == ZERO
    value = read_digit(reader)
    if starts_with_zero and is_digit(reader.ahead()):
        raise WrongForm()
    # Stops as soon as it is too great: a row may hold thousands of digits.
    while value <= most and is_digit(reader.ahead()):
        value = value * 10 + read_digit(reader)
    if value > most:
        raise WrongForm()
    return value


def read_digit(reader):
    sign = reader.take()
    if not is_digit(sign):
        raise WrongForm()
    return sign - ZERO


def read_literal(reader, kind):
    if kind.letter == TEXT:
        return read_text(reader, kind.size)
    if kind.letter == WHOLE:
        return read_whole(reader, kind.size)
    return read_number(reader, 1)


def read_whole(reader, bits):
    beyond = power_of_two(bits - 1)
    if not reader.skip(MINUS):
        return read_number(reader, beyond - 1)
    value = read_number(reader, beyond)
    if value == 0:
        raise WrongForm()
    return -value


def power_of_two(exponent):
    value = 1
    for step in range(exponent):
        value = value * 2
    return value


def read_text(reader, most):
    reader.expect(QUOTE)
    value = []
    while not reader.skip(QUOTE):
        value.append(read_byte(reader))
    if len(value) > most:
        raise WrongForm()
    return tuple(value)


def read_byte(reader):
    sign = reader.take()
    if sign != BACKSLASH:
        if not stands_as_itself(sign):
            raise WrongForm()
        return sign
    greater_place = read_place(reader)
    value = greater_place * 16 + read_place(reader)
    # Each value has one literal only, so what can stand as itself must.
    if stands_as_itself(value):
        raise WrongForm()
    return value


def stands_as_itself(value):
    return FIRST_PLAIN <= value <= LAST_PLAIN and value != QUOTE and value != BACKSLASH


def read_place(reader):
    sign = reader.take()
    if is_digit(sign):
        return sign - ZERO
    if SMALL_A <= sign <= SMALL_F:
        return sign - SMALL_A + 10
    raise WrongForm()


def literal_of(value, kind):
    if kind.letter == TEXT:
        return text_literal(value)
    return [ord(sign) for sign in str(value)]


def text_literal(value):
    literal = [QUOTE]
    for byte in value:
        literal.extend(signs_of_byte(byte))
    literal.append(QUOTE)
    return literal


def signs_of_byte(byte):
    if stands_as_itself(byte):
        return [byte]
    return [BACKSLASH, sign_of_place(byte // 16), sign_of_place(byte % 16)]


def sign_of_place(value):
    return ZERO + value if value < 10 else SMALL_A + value - 10


def read_leaf_kind(reader):
    letter = reader.take()
    if letter == BIT:
        return LeafKind(letter, 0)
    if letter == WHOLE:
        return LeafKind(letter, read_number_from(reader, 2, 64))
    if letter == TEXT:
        return LeafKind(letter, read_number_from(reader, 1, 999))
    raise WrongForm()


def read_number_from(reader, least, most):
    value = read_number(reader, most)
    if value < least:
        raise WrongForm()
    return value
