"""The document's own examples, number by number."""

import unittest

from helper import EXAMPLE, EXAMPLE_ROW, FLUSH, NOW, PAIRS, RUNS, SNAP
from helper import close, counted, drop, get, merge, put, run, schema, text_bytes
from sortedruns.schemas import columns_of, read_schema
from sortedruns.table import answers

WRITTEN = (
    schema(PAIRS, 0), put("{k:1;v:1}"), put("{k:2;v:1}"), FLUSH, SNAP, put("{k:1;v:2}"), drop("2"), FLUSH,
)
WRITTEN_ANSWERS = [1, 0, 1, 1, 1, 2, 1, 1, 1, 0, 1, 3, 1, 4, 1, 2]


class TestExamples(unittest.TestCase):
    def numbers(self, calls, expected):
        self.assertEqual(answers([number for call in calls for number in call]), expected)

    def behind(self, calls, expected):
        self.numbers(WRITTEN + calls, WRITTEN_ANSWERS + expected)

    def test_schema_with_nine_leaves(self):
        self.numbers((schema(EXAMPLE, 0),), [1, 0])
        self.assertEqual(len(columns_of(read_schema(text_bytes(EXAMPLE)))), 9)
        # Column 8 is there, but not sure; column 9 is not there: both can't be key columns.
        self.numbers((schema(EXAMPLE, 8), schema(EXAMPLE, 9)), [1, -4, 1, -4])

    def test_row_of_that_schema(self):
        bytes_of_row = counted(text_bytes(EXAMPLE_ROW))
        expected = [1, 0, 1, 1, 2 + len(bytes_of_row), 0, 1] + bytes_of_row
        self.numbers((schema(EXAMPLE, 0), put(EXAMPLE_ROW), get(NOW, "5")), expected)

    def test_written_table(self):
        self.behind((), [])

    def test_two_runs_of_two_entries_each(self):
        self.behind((RUNS,), [5, 2, 2, 1, 2, 0])
        self.behind((run(0),), [9, 2, 1, 49, 3, 1, 1, 50, 4, 0])
        self.behind((run(1),), [9, 2, 1, 49, 1, 1, 1, 50, 2, 1])

    def test_get_now_opens_the_newest_run(self):
        self.behind((get(NOW, "1"),), [12, 1, 1, 9, 123, 107, 58, 49, 59, 118, 58, 50, 125])

    def test_get_at_the_snapshot_opens_both(self):
        self.behind((get(0, "1"),), [12, 2, 1, 9, 123, 107, 58, 49, 59, 118, 58, 49, 125])

    def test_merge_keeps_all_four(self):
        self.behind((merge(0, 2), RUNS), [1, 1, 3, 1, 4, 1])
        self.behind((merge(0, 2), run(0)), [1, 1, 17, 4, 1, 49, 3, 1, 1, 49, 1, 1, 1, 50, 4, 0, 1, 50, 2, 1])

    def test_merge_with_the_snapshot_closed_keeps_entry_3_alone(self):
        closed = (merge(0, 2), close(0), merge(0, 1))
        self.behind(closed + (RUNS,), [1, 1, 1, 0, 1, 1, 3, 1, 1, 0])
        self.behind(closed + (run(0),), [1, 1, 1, 0, 1, 1, 5, 1, 1, 49, 3, 1])
        self.behind(closed + (get(NOW, "1"),), [1, 1, 1, 0, 1, 1, 12, 1, 1, 9] + list(b"{k:1;v:2}"))
        self.behind(closed + (get(NOW, "2"), get(0, "1")), [1, 1, 1, 0, 1, 1, 2, 0, 0, 1, -3])
