"""Entries and the runs they stand in.

A run is a list of entries, sorted by key, those of one key by falling numbers.
"""


class Entry:
    def __init__(self, key, number, row):
        self.key = key
        self.number = number
        self.row = row

    def is_drop(self):
        return self.row is None


def sorted_run(entries):
    return sorted(entries, key=place_in_run)


def place_in_run(entry):
    return (entry.key, -entry.number)


def merged_run(runs, points, none_behind):
    together = []
    for run in runs:
        together.extend(run)
    histories = {}
    for entry in sorted_run(together):
        histories.setdefault(entry.key, []).append(entry)
    kept = []
    for history in histories.values():
        read = readable(history, points)
        kept.extend(without_oldest_drops(read) if none_behind else read)
    return kept


def readable(history, points):
    read = {}
    for point in points:
        up_to = [entry.number for entry in history if entry.number <= point]
        if len(up_to) > 0:
            read[max(up_to)] = True
    return [entry for entry in history if entry.number in read]


def without_oldest_drops(history):
    end = len(history)
    while end > 0 and history[end - 1].is_drop():
        end = end - 1
    return history[:end]


def count_drops(run):
    return len([entry for entry in run if entry.is_drop()])


def smallest_pair(runs):
    best = 0
    for first in range(1, len(runs) - 1):
        if pair_size(runs, first) < pair_size(runs, best):
            best = first
    return best


def pair_size(runs, first):
    return len(runs[first]) + len(runs[first + 1])
