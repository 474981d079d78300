"""Many lines of calls, held against a second telling of the document's words.

The second telling keeps plain lists and asks each sentence anew; the lines come from a fixed seed.
"""

import random
import unittest

from helper import ADVISE, FLUSH, HELD, NOW, PAIRS, RUNS, SNAP
from helper import ask, close, drop, entry_list, get, key_list, many_rows, merge, no_row, one_row, put, run, scan, schema
from sortedruns.table import Table

TEXT = "{1k!i8;2n!t2;3v!i16}"
WHOLES = tuple((number, str(number)) for number in (-10, -9, -1, 0, 2, 9, 10))
TEXTS = (
    (b"", '""'), (b"!", '"!"'), (b'"', '"\\22"'), (b"#", '"#"'), (b"a", '"a"'), (b"a\0", '"a\\00"'), (b"\xff", '"\\ff"'),
)


class Key:
    """A key's values, which Python puts in the document's order, beside its literals."""

    def __init__(self, parts):
        self.values = tuple(value for value, literal in parts)
        self.literals = tuple(literal for value, literal in parts)


class Model:
    def __init__(self):
        self.made = 0
        self.fresh = []
        self.runs = []
        self.open = {}
        self.given = 0

    def all(self):
        return self.fresh + [entry for run in self.runs for entry in run]

    def write(self, key, row):
        if len(self.all()) == 200:
            return [-5]
        self.made += 1
        self.fresh.append((key.values, self.made, row, key.literals))
        return [self.made]

    def flush(self):
        if self.fresh and len(self.runs) == 12:
            return [-6]
        if self.fresh:
            self.runs = [self.fresh] + self.runs
            self.fresh = []
        return [len(self.runs)]

    def merge(self, first, count):
        if first < 0 or count < 1 or first + count > len(self.runs):
            return [-7]
        entries = [entry for run in self.runs[first:first + count] for entry in run]
        points = [self.made] + list(self.open.values())
        kept = [entry for entry in entries if any(self.is_newest(entry, entries, point) for point in points)]
        while first + count == len(self.runs):
            left = [entry for entry in kept if entry[2] or any(
                other[0] == entry[0] and other[1] < entry[1] for other in kept)]
            if left == kept:
                break
            kept = left
        self.runs[first:first + count] = [kept] if kept else []
        return [len(self.runs)]

    def is_newest(self, entry, entries, point):
        numbers = [other[1] for other in entries if other[0] == entry[0] and other[1] <= point]
        return entry[1] <= point and entry[1] == max(numbers)

    def advise(self):
        if len(self.runs) < 2:
            return [-7]
        sizes = [len(newer) + len(older) for newer, older in zip(self.runs, self.runs[1:])]
        return [sizes.index(min(sizes)), min(sizes)]

    def snap(self):
        if len(self.open) == 8:
            return [-5]
        self.given += 1
        self.open[self.given - 1] = self.made
        return [self.given - 1]

    def close(self, number):
        return [-3] if self.open.pop(number, None) is None else [0]

    def last_read(self, point):
        return self.made if point == NOW else self.open.get(point)

    def rows_at(self, last_read):
        held = self.all()
        return sorted((entry[0], entry[2]) for entry in held if entry[2] and self.is_newest(entry, held, last_read))

    def has_up_to(self, entries, key, last_read):
        return any(entry[0] == key.values and entry[1] <= last_read for entry in entries)

    def opened_for_key(self, key, last_read):
        opened = 0
        if self.has_up_to(self.fresh, key, last_read):
            return opened
        for entries in self.runs:
            keys = sorted(entry[0] for entry in entries)
            if key.values < keys[0] or key.values > keys[-1]:
                continue
            opened += 1
            if self.has_up_to(entries, key, last_read):
                break
        return opened

    def get(self, point, key):
        last_read = self.last_read(point)
        if last_read is None:
            return [-3]
        opened = self.opened_for_key(key, last_read)
        row = dict(self.rows_at(last_read)).get(key.values)
        return no_row(opened) if row is None else one_row(opened, row)

    def scan(self, point, limit, low, high):
        last_read = self.last_read(point)
        if last_read is None:
            return [-3]
        if limit < 0:
            return [-4]
        opened = 0
        for entries in self.runs:
            keys = sorted(entry[0] for entry in entries)
            if not high.values < low.values and not keys[0] > high.values and not keys[-1] < low.values:
                opened += 1
        rows = [row for key, row in self.rows_at(last_read) if low.values <= key <= high.values]
        return many_rows(opened, *rows[:limit])

    def list_runs(self):
        answer = [len(self.runs)]
        for entries in self.runs:
            answer += [len(entries), len([entry for entry in entries if not entry[2]])]
        return answer

    def list_run(self, number):
        if number < 0 or number >= len(self.runs):
            return [-7]
        entries = sorted(self.runs[number], key=lambda entry: (entry[0], -entry[1]))
        return entry_list(*[(entry[3], entry[1], 1 if entry[2] else 0) for entry in entries])

    def held(self):
        return [len(self.fresh), len(self.all())]


class Line:
    """Steps by chance: each a call, and what the second telling answers to it."""

    def __init__(self, seed):
        self.chance = random.Random(seed)
        self.model = Model()
        self.columns = self.chance.choice(((0,), (1,), (0, 1), (1, 0)))
        self.kinds = self.chance.choice(("ppppppddddffmmasscghhqQrR", "pppddffmsscgggggqqqqQrR"))
        # Few keys have many entries each, many keys make ranges that meet some of the runs only.
        self.few = self.chance.choice((2, 4, 7))

    def key_of(self, whole, text):
        return Key([(whole, text)[column] for column in self.columns])

    def some_key(self):
        return self.key_of(self.chance.choice(WHOLES[:self.few]), self.chance.choice(TEXTS[:self.few]))

    def some_point(self):
        return self.chance.choice([NOW, NOW, self.chance.randrange(-2, self.model.given + 1)] + list(self.model.open))

    def step(self, value):
        kind = self.chance.choice(self.kinds)
        if kind in "pdgq":
            return self.key_step(kind, value)
        if kind in "mcR":
            return self.number_step(kind)
        model = self.model
        return {"f": lambda: (FLUSH, model.flush()), "a": lambda: (ADVISE, model.advise()),
                "s": lambda: (SNAP, model.snap()), "h": lambda: (HELD, model.held()),
                "r": lambda: (RUNS, model.list_runs()), "Q": lambda: self.whole_scan()}[kind]()

    def key_step(self, kind, value):
        if kind == "p":
            whole = self.chance.choice(WHOLES[:self.few])
            text = self.chance.choice(TEXTS[:self.few])
            row = "{k:%s;n:%s;v:%d}" % (whole[1], text[1], value)
            return put(row), self.model.write(self.key_of(whole, text), row)
        key = self.some_key()
        if kind == "d":
            return drop(*key.literals), self.model.write(key, None)
        point = self.some_point()
        if kind == "g":
            return get(point, *key.literals), self.model.get(point, key)
        return self.scan_step(point, self.chance.choice((-1, 0, 1, 2, 9, 9)), key, self.some_key())

    def whole_scan(self):
        low = self.key_of((-128, "-128"), TEXTS[0])
        high = self.key_of((127, "127"), (b"\xff\xff", '"\\ff\\ff"'))
        return self.scan_step(self.some_point(), 200, low, high)

    def scan_step(self, point, limit, low, high):
        call = scan(point, limit, key_list(*low.literals), key_list(*high.literals))
        return call, self.model.scan(point, limit, low, high)

    def number_step(self, kind):
        if kind == "m":
            first = self.chance.randrange(-1, 4)
            count = self.chance.randrange(0, 4)
            return merge(first, count), self.model.merge(first, count)
        if kind == "c":
            number = self.chance.randrange(0, self.model.given + 1)
            return close(number), self.model.close(number)
        number = self.chance.randrange(-1, len(self.model.runs) + 1)
        return run(number), self.model.list_run(number)


def table_at(table, point):
    entries = table.fresh + [entry for run in table.run_list for entry in run]
    newest = {}
    for entry in sorted(entries, key=lambda entry: entry.number):
        if entry.number <= point:
            newest[entry.key] = entry.row
    return {key: row for key, row in newest.items() if row is not None}


def written_table(chance):
    table = Table()
    table.schema(list(PAIRS.encode()), [0])
    for step in range(60):
        kind = chance.choice("ppppdddfffsc")
        key = chance.randrange(4)
        if kind == "p":
            table.put(list(b"{k:%d;v:%d}" % (key, step)))
        elif kind == "d":
            table.drop([1, 48 + key])
        elif kind == "f":
            table.flush()
        elif kind == "s":
            table.snap()
        else:
            table.close(chance.randrange(table.next_snapshot + 1))
    return table


class TestModel(unittest.TestCase):
    def test_same_answers(self):
        for seed in range(200):
            line = Line(seed)
            steps = [line.step(value) for value in range(line.chance.choice((40, 150, 399)))]
            asked = ask(schema(TEXT, *line.columns), *[call for call, expected in steps])
            self.assertEqual(asked[0], [0])
            for (call, expected), answer in zip(steps, asked[1:], strict=True):
                self.assertEqual(answer, expected, (seed, call))

    def test_merging_changes_nothing_that_can_be_read(self):
        for seed in range(150):
            chance = random.Random(seed)
            table = written_table(chance)
            points = list(table.snapshots.values()) + [table.last_entry]
            before = [table_at(table, point) for point in points]
            read_before = reads(table)
            for step in range(4):
                table.merge(chance.randrange(4), chance.randrange(1, 4))
                self.assertEqual([table_at(table, point) for point in points], before, seed)
                self.assertEqual(reads(table), read_before, seed)
                for entries in table.run_list:
                    places = [(entry.key, -entry.number) for entry in entries]
                    self.assertEqual(places, sorted(places), seed)


def reads(table):
    # Behind the first number of each answer, which tells how many runs are opened and falls by merging.
    read = []
    for point in [NOW] + list(table.snapshots):
        read.append(table.scan(point, 200, key_list("-128"), key_list("127"))[1:])
        read += [table.get(point, key_list(str(key)))[1:] for key in range(-1, 5)]
    return read
