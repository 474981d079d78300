"""Many lines of calls, held against a second telling of the document's words.

The second telling keeps plain lists and asks each sentence anew; the lines come from a fixed seed.
"""

import random
import unittest

from helper import ADVISE, FLUSH, HELD, PAIRS, SNAP, ask, close, drop, merge, pair, schema
from sortedruns.table import Table


class Model:
    def __init__(self):
        self.made = 0
        self.fresh = []
        self.runs = []
        self.open = {}
        self.given = 0

    def all(self):
        return self.fresh + [entry for run in self.runs for entry in run]

    def write(self, key, is_row):
        if len(self.all()) == 200:
            return [-5]
        self.made += 1
        self.fresh.append((key, self.made, is_row))
        return [self.made]

    def flush(self):
        if self.fresh and len(self.runs) == 12:
            return [-6]
        if self.fresh:
            self.runs = [self.fresh] + self.runs
            self.fresh = []
        return [len(self.runs)]

    def merge(self, first, count):
        if first < 0 or count < 1 or first + count > len(self.runs):
            return [-7]
        entries = [entry for run in self.runs[first:first + count] for entry in run]
        points = [self.made] + list(self.open.values())
        kept = [entry for entry in entries if any(self.is_newest(entry, entries, point) for point in points)]
        while first + count == len(self.runs):
            left = [entry for entry in kept if entry[2] or any(
                other[0] == entry[0] and other[1] < entry[1] for other in kept)]
            if left == kept:
                break
            kept = left
        self.runs[first:first + count] = [kept] if kept else []
        return [len(self.runs)]

    def is_newest(self, entry, entries, point):
        numbers = [number for key, number, is_row in entries if key == entry[0] and number <= point]
        return entry[1] <= point and entry[1] == max(numbers)

    def advise(self):
        if len(self.runs) < 2:
            return [-7]
        sizes = [len(newer) + len(older) for newer, older in zip(self.runs, self.runs[1:])]
        return [sizes.index(min(sizes)), min(sizes)]

    def snap(self):
        if len(self.open) == 8:
            return [-5]
        self.given += 1
        self.open[self.given - 1] = self.made
        return [self.given - 1]

    def close(self, number):
        return [-3] if self.open.pop(number, None) is None else [0]

    def held(self):
        return [len(self.fresh), len(self.all())]


def random_step(chance, model):
    kind = chance.choice("ppppppddddffmmassch")
    key = chance.randrange(-3, 4)
    if kind == "p":
        return pair(key), model.write(key, True)
    if kind == "d":
        return drop(str(key)), model.write(key, False)
    if kind == "f":
        return FLUSH, model.flush()
    if kind == "m":
        first = chance.randrange(-1, 4)
        count = chance.randrange(0, 4)
        return merge(first, count), model.merge(first, count)
    if kind == "a":
        return ADVISE, model.advise()
    if kind == "s":
        return SNAP, model.snap()
    if kind == "c":
        number = chance.randrange(0, model.given + 1)
        return close(number), model.close(number)
    return HELD, model.held()


def table_at(table, point):
    entries = table.fresh + [entry for run in table.run_list for entry in run]
    newest = {}
    for entry in sorted(entries, key=lambda entry: entry.number):
        if entry.number <= point:
            newest[entry.key] = entry.row
    return {key: row for key, row in newest.items() if row is not None}


def written_table(chance):
    table = Table()
    table.schema(list(PAIRS.encode()), [0])
    for step in range(60):
        kind = chance.choice("ppppdddfffsc")
        key = chance.randrange(4)
        if kind == "p":
            table.put(list(b"{k:%d;v:%d}" % (key, step)))
        elif kind == "d":
            table.drop([1, 48 + key])
        elif kind == "f":
            table.flush()
        elif kind == "s":
            table.snap()
        else:
            table.close(chance.randrange(table.next_snapshot + 1))
    return table


class TestModel(unittest.TestCase):
    def test_same_answers(self):
        for seed in range(150):
            chance = random.Random(seed)
            model = Model()
            steps = [random_step(chance, model) for step in range(chance.choice((40, 150, 399)))]
            asked = ask(schema(PAIRS, 0), *[call for call, expected in steps])
            self.assertEqual(asked[1:], [expected for call, expected in steps], seed)

    def test_merging_changes_nothing_that_can_be_read(self):
        for seed in range(150):
            chance = random.Random(seed)
            table = written_table(chance)
            points = list(table.snapshots.values()) + [table.last_entry]
            before = [table_at(table, point) for point in points]
            for step in range(4):
                table.merge(chance.randrange(4), chance.randrange(1, 4))
                self.assertEqual([table_at(table, point) for point in points], before, seed)
                for run in table.run_list:
                    places = [(entry.key, -entry.number) for entry in run]
                    self.assertEqual(places, sorted(places), seed)
