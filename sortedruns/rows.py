"""Rows: reading one from its text, and keys from rows, from lists and as lists.

A group's value is a dict from the names of its fields to their occurrences.
"""

from sortedruns.literals import LeafKind, literal_of, read_literal
from sortedruns.reader import Reader, WrongForm, counted
from sortedruns.signs import ANY_NUMBER, BY_KEY, CHOICE_END, CHOICE_START, COLON, COMMA
from sortedruns.signs import JUST_ONE, RECORD_END, RECORD_START, SEMICOLON

LONGEST_ROW = 4000


def read_row(text, record):
    if len(text) > LONGEST_ROW:
        raise WrongForm()
    reader = Reader(text)
    row = read_record(reader, record)
    reader.expect_end()
    return row


def read_value(reader, kind):
    if isinstance(kind, LeafKind):
        return read_literal(reader, kind)
    if kind.is_choice:
        return read_choice(reader, kind)
    return read_record(reader, kind)


def read_record(reader, record):
    reader.expect(RECORD_START)
    value = {}
    for field in record.fields:
        between = [SEMICOLON] if len(value) > 0 else []
        if reader.skip_all(between + label_of(field)):
            value[field.name] = read_occurrences(reader, field)
        elif field.mode == JUST_ONE:
            raise WrongForm()
    reader.expect(RECORD_END)
    return value


def read_choice(reader, choice):
    reader.expect(CHOICE_START)
    for field in choice.fields:
        if reader.skip_all(label_of(field)):
            value = {field.name: [read_value(reader, field.kind)]}
            reader.expect(CHOICE_END)
            return value
    raise WrongForm()


def label_of(field):
    return list(field.name) + [COLON]


def read_occurrences(reader, field):
    found = [read_value(reader, field.kind)]
    if field.mode in (ANY_NUMBER, BY_KEY):
        while reader.skip(COMMA):
            found.append(read_value(reader, field.kind))
    if field.mode == BY_KEY:
        check_keys_rise(found, field.kind.fields[0].name)
    return found


def check_keys_rise(found, key_name):
    for place in range(1, len(found)):
        if found[place][key_name][0] <= found[place - 1][key_name][0]:
            raise WrongForm()


def key_of(row, key_columns):
    return tuple([value_at(row, column.path) for column in key_columns])


def value_at(row, path):
    value = row
    for name in path:
        value = value[name][0]
    return value


def read_key(numbers, key_columns):
    reader = Reader(numbers)
    key = []
    for column in key_columns:
        literal = Reader(reader.take_counted())
        key.append(read_literal(literal, column.kind))
        literal.expect_end()
    reader.expect_end()
    return tuple(key)


def key_list(key, key_columns):
    numbers = []
    for place in range(len(key_columns)):
        numbers.extend(counted(literal_of(key[place], key_columns[place].kind)))
    return numbers
