"""Schemas: reading one from its text, and its columns."""

from sortedruns.literals import LeafKind, read_leaf_kind, read_literal, read_number_from
from sortedruns.reader import Reader, WrongForm
from sortedruns.signs import BY_KEY, CHOICE_END, CHOICE_START, EQUALS, JUST_ONE
from sortedruns.signs import RECORD_END, RECORD_START, SEMICOLON, UNDERSCORE
from sortedruns.signs import is_digit, is_mode, is_small_letter

LONGEST_SCHEMA = 2000
GREATEST_FIELD_NUMBER = 999
LONGEST_NAME = 12
DEEPEST_GROUP = 6
MOST_LEAVES = 40
MOST_KEY_COLUMNS = 3


class Group:
    def __init__(self, is_choice, fields):
        self.is_choice = is_choice
        self.fields = fields


class Field:
    def __init__(self, number, name, mode, kind):
        self.number = number
        self.name = name
        self.mode = mode
        self.kind = kind


class Column:
    def __init__(self, kind, path, sure):
        self.kind = kind
        self.path = path
        self.sure = sure


def read_schema(text):
    if len(text) > LONGEST_SCHEMA:
        raise WrongForm()
    reader = Reader(text)
    if reader.ahead() != RECORD_START:
        raise WrongForm()
    record = read_group(reader, 1)
    reader.expect_end()
    if len(columns_of(record)) > MOST_LEAVES:
        raise WrongForm()
    return record


def read_group(reader, depth):
    # Looked at before going in, so that no text nests the calls any deeper.
    if depth > DEEPEST_GROUP:
        raise WrongForm()
    is_choice = reader.take() == CHOICE_START
    fields = [read_field(reader, depth, is_choice)]
    while reader.skip(SEMICOLON):
        fields.append(read_field(reader, depth, is_choice))
    reader.expect(CHOICE_END if is_choice else RECORD_END)
    check_numbers_rise(fields)
    check_names_differ(fields)
    return Group(is_choice, fields)


def read_field(reader, depth, in_choice):
    number = read_number_from(reader, 1, GREATEST_FIELD_NUMBER)
    name = read_name(reader)
    mode = reader.take()
    if not is_mode(mode) or (in_choice and mode != JUST_ONE):
        raise WrongForm()
    kind = read_kind(reader, depth)
    if mode == BY_KEY and not has_key(kind):
        raise WrongForm()
    if reader.skip(EQUALS):
        if in_choice or mode != JUST_ONE or isinstance(kind, Group):
            raise WrongForm()
        # Each row tells its own value here, so the default is looked at and not kept.
        read_literal(reader, kind)
    return Field(number, name, mode, kind)


def read_name(reader):
    if not is_small_letter(reader.ahead()):
        raise WrongForm()
    name = []
    while is_name_sign(reader.ahead()):
        name.append(reader.take())
    if len(name) > LONGEST_NAME:
        raise WrongForm()
    return tuple(name)


def is_name_sign(sign):
    return is_small_letter(sign) or is_digit(sign) or sign == UNDERSCORE


def read_kind(reader, depth):
    if reader.ahead() in (RECORD_START, CHOICE_START):
        return read_group(reader, depth + 1)
    return read_leaf_kind(reader)


def has_key(kind):
    if isinstance(kind, LeafKind) or kind.is_choice:
        return False
    first = kind.fields[0]
    return first.mode == JUST_ONE and isinstance(first.kind, LeafKind)


def check_numbers_rise(fields):
    for place in range(1, len(fields)):
        if fields[place].number <= fields[place - 1].number:
            raise WrongForm()


def check_names_differ(fields):
    if len(set([field.name for field in fields])) < len(fields):
        raise WrongForm()


def columns_of(record):
    columns = []
    add_columns(record, (), True, columns)
    return columns


def add_columns(group, path, sure, columns):
    for field in group.fields:
        field_path = path + (field.name,)
        field_sure = sure and field.mode == JUST_ONE and not group.is_choice
        if isinstance(field.kind, Group):
            add_columns(field.kind, field_path, field_sure, columns)
        else:
            columns.append(Column(field.kind, field_path, field_sure))


def can_be_key(columns, places):
    if not 1 <= len(places) <= MOST_KEY_COLUMNS or len(set(places)) < len(places):
        return False
    return all([0 <= place < len(columns) and columns[place].sure for place in places])
