"""Reading up to a point, and which runs are opened for it."""


class Found:
    def __init__(self, opened, entry):
        self.opened = opened
        self.entry = entry


def find_entry(fresh, runs, key, point):
    entry = newest_between(fresh, key, key, point).get(key)
    opened = 0
    for run in runs:
        # Each run is newer than those behind it, so the first entry that is found is the newest.
        if entry is None and meets(run, key, key):
            opened = opened + 1
            entry = newest_between(run, key, key, point).get(key)
    return Found(opened, entry)


def meets(run, low, high):
    return low <= high and run[0].key <= high and low <= run[-1].key


def newest_between(entries, low, high, point):
    newest = {}
    for entry in entries:
        if low <= entry.key <= high and entry.number <= point:
            other = newest.get(entry.key)
            if other is None or other.number < entry.number:
                newest[entry.key] = entry
    return newest


def rows_between(entries, low, high, point):
    newest = newest_between(entries, low, high, point)
    return [newest[key].row for key in sorted(newest) if not newest[key].is_drop()]
