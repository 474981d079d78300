"""Writes calls as the flat lists that answers takes, and takes its answers apart."""

from sortedruns.table import answers

NO_FORM = [-1]
NO_SCHEMA = [-2]
NO_SNAPSHOT = [-3]
NO_COLUMNS = [-4]
NO_LIMIT = [-4]
NO_ROOM = [-5]
NO_ROOM_FOR_RUN = [-6]
NO_RUNS = [-7]
NO_KEY = [-8]

FLUSH = [3]
ADVISE = [5]
SNAP = [6]
RUNS = [10]
HELD = [12]
NOW = -1

EXAMPLE = (
    "{1id!i32;2name?t20;3tags*t8;4pos?{1x!i16=0;2y!i16};"
    "5shape!<1dot!b;2line!{1len!i8}>;6attr%{1key!t4;2val?i32}}"
)
EXAMPLE_ROW = (
    '{id:5;tags:"a","b\\22";pos:{x:-1;y:2};shape:<line:{len:7}>;'
    'attr:{key:"a"},{key:"b";val:3}}'
)
PAIRS = "{1k!i8;2v!i8}"


def counted(numbers):
    return [len(numbers)] + list(numbers)


def text_bytes(text):
    return list(text.encode("latin-1"))


def key_list(*literals):
    flat = []
    for literal in literals:
        flat += counted(text_bytes(literal))
    return flat


def schema(text, *columns):
    return [0] + counted(text_bytes(text)) + counted(columns)


def put(text):
    return [1] + counted(text_bytes(text))


def pair_text(k, v=0):
    return "{k:%d;v:%d}" % (k, v)


def pair(k, v=0):
    return put(pair_text(k, v))


def drop_list(numbers):
    return [2] + counted(numbers)


def drop(*literals):
    return drop_list(key_list(*literals))


def merge(first, count):
    return [4, first, count]


def close(snapshot):
    return [7, snapshot]


def get_list(point, numbers):
    return [8, point] + counted(numbers)


def get(point, *literals):
    return get_list(point, key_list(*literals))


def scan(point, limit, low, high):
    return [9, point, limit] + counted(low) + counted(high)


def scan_pairs(point, limit, low, high):
    return scan(point, limit, key_list(str(low)), key_list(str(high)))


def run(number):
    return [11, number]


def no_row(opened):
    return [opened, 0]


def one_row(opened, text):
    return [opened, 1] + counted(text_bytes(text))


def many_rows(opened, *texts):
    answer = [opened, len(texts)]
    for text in texts:
        answer += counted(text_bytes(text))
    return answer


def entry_list(*entries):
    # Of each entry: the literals of its key, its number, and 1 if it has a row.
    answer = [len(entries)]
    for literals, number, has_row in entries:
        answer += key_list(*literals) + [number, has_row]
    return answer


def ask(*calls):
    flat = []
    for call in calls:
        flat += call
    return split_answers(answers(flat))


def split_answers(given):
    split = []
    place = 0
    while place < len(given):
        end = place + 1 + given[place]
        split.append(given[place + 1:end])
        place = end
    return split


def last(*calls):
    return ask(*calls)[-1]
