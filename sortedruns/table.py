"""The table: one object, and the calls on it."""

from sortedruns.calls import ADVISE, CLOSE, DROP, FLUSH, GET, MERGE, PUT, RUN, RUNS, SCAN, SCHEMA, SNAP, read_call
from sortedruns.entries import Entry, count_drops, merged_run, pair_size, smallest_pair, sorted_run
from sortedruns.reader import Reader, WrongForm, counted
from sortedruns.reading import find_entry, meets, rows_between
from sortedruns.refusals import NO_COLUMNS, NO_FORM, NO_KEY, NO_LIMIT, NO_ROOM, NO_ROOM_FOR_RUN
from sortedruns.refusals import NO_RUNS, NO_SCHEMA, NO_SNAPSHOT
from sortedruns.rows import key_list, key_of, read_key, read_row
from sortedruns.schemas import can_be_key, columns_of, read_schema

MOST_ENTRIES = 200
MOST_RUNS = 12
MOST_SNAPSHOTS = 8

# The point that is no snapshot's number.
NOW = -1


# Each of its calls gives back the answer as a list: a refusal alone, or all that is answered.
class Table:
    def __init__(self):
        self.record = None
        self.key_columns = []
        self.empty()

    def empty(self):
        self.fresh = []
        self.run_list = []
        self.last_entry = 0
        # From an open snapshot's number to the last entry that it reads.
        self.snapshots = {}
        self.next_snapshot = 0

    def schema(self, text, places):
        try:
            record = read_schema(text)
        except WrongForm:
            return [NO_FORM]
        columns = columns_of(record)
        if not can_be_key(columns, places):
            return [NO_COLUMNS]
        self.record = record
        self.key_columns = [columns[place] for place in places]
        self.empty()
        return [0]

    def put(self, text):
        try:
            row = read_row(text, self.record)
        except WrongForm:
            return [NO_FORM]
        return self.write(key_of(row, self.key_columns), text)

    def drop(self, numbers):
        try:
            key = read_key(numbers, self.key_columns)
        except WrongForm:
            return [NO_KEY]
        return self.write(key, None)

    def write(self, key, row):
        if self.count_entries() >= MOST_ENTRIES:
            return [NO_ROOM]
        self.last_entry = self.last_entry + 1
        self.fresh.append(Entry(key, self.last_entry, row))
        return [self.last_entry]

    def count_entries(self):
        return len(self.fresh) + sum([len(run) for run in self.run_list])

    def flush(self):
        if len(self.fresh) > 0:
            if len(self.run_list) >= MOST_RUNS:
                return [NO_ROOM_FOR_RUN]
            self.run_list.insert(0, sorted_run(self.fresh))
            self.fresh = []
        return [len(self.run_list)]

    def merge(self, first, count):
        end = first + count
        if first < 0 or count < 1 or end > len(self.run_list):
            return [NO_RUNS]
        points = list(self.snapshots.values()) + [self.last_entry]
        none_behind = end == len(self.run_list)
        run = merged_run(self.run_list[first:end], points, none_behind)
        in_their_place = [run] if len(run) > 0 else []
        self.run_list = self.run_list[:first] + in_their_place + self.run_list[end:]
        return [len(self.run_list)]

    def advise(self):
        if len(self.run_list) < 2:
            return [NO_RUNS]
        first = smallest_pair(self.run_list)
        return [first, pair_size(self.run_list, first)]

    def snap(self):
        if len(self.snapshots) >= MOST_SNAPSHOTS:
            return [NO_ROOM]
        number = self.next_snapshot
        self.snapshots[number] = self.last_entry
        self.next_snapshot = number + 1
        return [number]

    def close(self, snapshot):
        if snapshot not in self.snapshots:
            return [NO_SNAPSHOT]
        self.snapshots.pop(snapshot)
        return [0]

    def can_read(self, point):
        return point == NOW or point in self.snapshots

    def last_read(self, point):
        return self.last_entry if point == NOW else self.snapshots[point]

    def get(self, point, numbers):
        if not self.can_read(point):
            return [NO_SNAPSHOT]
        try:
            key = read_key(numbers, self.key_columns)
        except WrongForm:
            return [NO_KEY]
        found = find_entry(self.fresh, self.run_list, key, self.last_read(point))
        if found.entry is None or found.entry.is_drop():
            return [found.opened, 0]
        return [found.opened, 1] + counted(found.entry.row)

    def scan(self, point, limit, low_numbers, high_numbers):
        if not self.can_read(point):
            return [NO_SNAPSHOT]
        if limit < 0:
            return [NO_LIMIT]
        try:
            low = read_key(low_numbers, self.key_columns)
            high = read_key(high_numbers, self.key_columns)
        except WrongForm:
            return [NO_KEY]
        opened = [run for run in self.run_list if meets(run, low, high)]
        entries = list(self.fresh)
        for run in opened:
            entries.extend(run)
        rows = rows_between(entries, low, high, self.last_read(point))[:limit]
        answer = [len(opened), len(rows)]
        for row in rows:
            answer.extend(counted(row))
        return answer

    def runs(self):
        answer = [len(self.run_list)]
        for run in self.run_list:
            answer.extend([len(run), count_drops(run)])
        return answer

    def run(self, number):
        if not 0 <= number < len(self.run_list):
            return [NO_RUNS]
        answer = [len(self.run_list[number])]
        for entry in self.run_list[number]:
            answer.extend(key_list(entry.key, self.key_columns))
            answer.extend([entry.number, 0 if entry.is_drop() else 1])
        return answer

    def held(self):
        return [len(self.fresh), self.count_entries()]


def answers(calls):
    table = Table()
    reader = Reader(calls)
    given = []
    while not reader.ended():
        answer = answer_call(table, read_call(reader))
        given.append(len(answer))
        given.extend(answer)
    return given


def answer_call(table, call):
    if call.number == SCHEMA:
        return table.schema(call.lists[0], call.lists[1])
    if table.record is None:
        return [NO_SCHEMA]
    if call.number == PUT:
        return table.put(call.lists[0])
    if call.number == DROP:
        return table.drop(call.lists[0])
    if call.number == MERGE:
        return table.merge(call.numbers[0], call.numbers[1])
    if call.number == CLOSE:
        return table.close(call.numbers[0])
    if call.number == GET:
        return table.get(call.numbers[0], call.lists[0])
    if call.number == SCAN:
        return table.scan(call.numbers[0], call.numbers[1], call.lists[0], call.lists[1])
    if call.number == RUN:
        return table.run(call.numbers[0])
    return answer_bare_call(table, call.number)


def answer_bare_call(table, number):
    if number == FLUSH:
        return table.flush()
    if number == ADVISE:
        return table.advise()
    if number == SNAP:
        return table.snap()
    if number == RUNS:
        return table.runs()
    # No other call is left: each number that is handed in is one of a call.
    return table.held()
