"""The signs that schemas, literals and rows are written with, as byte numbers."""

RECORD_START = 123
RECORD_END = 125
CHOICE_START = 60
CHOICE_END = 62
SEMICOLON = 59
COLON = 58
COMMA = 44
EQUALS = 61

QUOTE = 34
BACKSLASH = 92
MINUS = 45
UNDERSCORE = 95
ZERO = 48
NINE = 57
SMALL_A = 97
SMALL_F = 102
SMALL_Z = 122
FIRST_PLAIN = 32
LAST_PLAIN = 126

JUST_ONE = 33
NONE_OR_ONE = 63
ANY_NUMBER = 42
BY_KEY = 37

BIT = 98
WHOLE = 105
TEXT = 116


def is_digit(sign):
    return ZERO <= sign <= NINE


def is_small_letter(sign):
    return SMALL_A <= sign <= SMALL_Z


def is_mode(sign):
    return sign in (JUST_ONE, NONE_OR_ONE, ANY_NUMBER, BY_KEY)
