"""Promises 5, 6 and 7: flush, merge and advise."""

import unittest

from helper import ADVISE, FLUSH, HELD, NO_ROOM_FOR_RUN, NO_RUNS, PAIRS, SNAP
from helper import ask, close, drop, last, merge, pair, schema
from sortedruns.entries import Entry, merged_run, sorted_run
from sortedruns.table import Table

BEGIN = schema(PAIRS, 0)


def runs_of(*sizes):
    # The newest run stands first, so the last size told is written first.
    calls = [BEGIN]
    for size in reversed(sizes):
        calls += [pair(key) for key in range(size)] + [FLUSH]
    return calls


class TestFlush(unittest.TestCase):
    def test_makes_a_run_of_the_fresh_entries(self):
        asked = ask(BEGIN, pair(1), pair(1), HELD, FLUSH, HELD, pair(2), FLUSH, HELD)
        self.assertEqual(asked[3:], [[2, 2], [1], [0, 2], [3], [2], [0, 3]])

    def test_without_fresh_entries_makes_none(self):
        self.assertEqual(ask(BEGIN, FLUSH, FLUSH)[1:], [[0], [0]])
        self.assertEqual(ask(BEGIN, pair(1), FLUSH, FLUSH, FLUSH)[2:], [[1], [1], [1]])

    def test_new_run_is_ahead_of_the_others(self):
        self.assertEqual(last(*runs_of(1, 5, 5), ADVISE), [0, 6])
        self.assertEqual(last(*runs_of(5, 5, 1), ADVISE), [1, 6])

    def test_at_most_12_runs(self):
        asked = ask(*runs_of(*[1] * 12), FLUSH, pair(1), FLUSH, HELD, FLUSH, merge(0, 2), FLUSH, HELD)
        self.assertEqual(asked[24], [12])
        self.assertEqual(asked[25:], [[12], [13], NO_ROOM_FOR_RUN, [1, 13], NO_ROOM_FOR_RUN, [11], [12], [0, 12]])

    def test_eleven_runs_have_room_for_one(self):
        asked = ask(*runs_of(*[1] * 11), pair(1), FLUSH)
        self.assertEqual(asked[-3:], [[11], [12], [12]])

    def test_run_is_sorted_by_key_and_falling_numbers(self):
        entries = [Entry(key, number, []) for number, key in enumerate(((2,), (-1,), (10,), (2,), (-1,)), start=1)]
        order = [(entry.key, entry.number) for entry in sorted_run(entries)]
        self.assertEqual(order, [((-1,), 5), ((-1,), 2), ((2,), 4), ((2,), 1), ((10,), 3)])

    def test_run_is_sorted_by_the_first_column_that_differs(self):
        keys = [((98,), 0), ((97, 0), 5), ((97,), 9), ((97,), -3), ((), 7)]
        entries = [Entry(key, number, []) for number, key in enumerate(keys, start=1)]
        self.assertEqual([entry.key for entry in sorted_run(entries)], list(reversed(keys)))


class TestMergeRefusals(unittest.TestCase):
    def test_runs_that_are_not_there(self):
        three = runs_of(1, 2, 3)
        for first, count in ((-1, 1), (-1, 2), (0, 0), (0, -1), (0, 4), (1, 3), (2, 2), (3, 1), (3, 0), (4, -1), (-2, 3),
                             (10 ** 18, 1), (0, 10 ** 18), (10 ** 18, -10 ** 18), (-10 ** 18, 10 ** 18)):
            asked = ask(*three, merge(first, count), HELD, ADVISE, FLUSH)
            self.assertEqual(asked[-4:], [NO_RUNS, [0, 6], [0, 3], [3]], (first, count))

    def test_without_runs(self):
        self.assertEqual(last(BEGIN, merge(0, 1)), NO_RUNS)
        self.assertEqual(last(BEGIN, pair(1), merge(0, 1)), NO_RUNS)
        self.assertEqual(last(BEGIN, merge(0, 0)), NO_RUNS)

    def test_runs_that_are_there(self):
        for first, count in ((0, 1), (0, 2), (0, 3), (1, 1), (1, 2), (2, 1)):
            self.assertEqual(last(*runs_of(1, 2, 3), merge(first, count)), [4 - count])


class TestMerge(unittest.TestCase):
    def test_example_of_the_document(self):
        calls = (BEGIN, pair(1, 1), pair(2, 1), FLUSH, SNAP, pair(1, 2), drop("2"), FLUSH)
        self.assertEqual(ask(*calls), [[0], [1], [2], [1], [0], [3], [4], [2]])
        self.assertEqual(last(*calls, ADVISE), [0, 4])
        merged = calls + (merge(0, 2), HELD)
        self.assertEqual(ask(*merged)[-2:], [[1], [0, 4]])
        self.assertEqual(ask(*merged, close(0), merge(0, 1), HELD)[-3:], [[0], [1], [0, 1]])

    def test_newer_hides_older(self):
        asked = ask(BEGIN, pair(1), pair(2), FLUSH, pair(1), FLUSH, pair(1), FLUSH, merge(0, 3), HELD)
        self.assertEqual(asked[-2:], [[1], [0, 2]])

    def test_one_run_alone(self):
        asked = ask(BEGIN, pair(1), pair(1), pair(2), pair(1), FLUSH, merge(0, 1), HELD)
        self.assertEqual(asked[-2:], [[1], [0, 2]])

    def test_merged_run_stands_in_their_place(self):
        # The merged run is the greatest, so each other place for it would be advised otherwise.
        self.assertEqual(ask(*runs_of(1, 10, 8, 9), merge(0, 2), ADVISE)[-2:], [[3], [1, 17]])
        self.assertEqual(ask(*runs_of(8, 1, 10, 9), merge(1, 2), ADVISE)[-2:], [[3], [0, 18]])
        self.assertEqual(ask(*runs_of(8, 9, 1, 10), merge(2, 2), ADVISE)[-2:], [[3], [0, 17]])

    def test_fresh_entries_stay(self):
        asked = ask(BEGIN, pair(1), FLUSH, pair(1), drop("1"), merge(0, 1), HELD)
        self.assertEqual(asked[-2:], [[1], [2, 3]])

    def test_drops_stay_while_an_older_run_is_behind(self):
        calls = (BEGIN, pair(1), FLUSH, drop("1"), FLUSH, drop("1"), FLUSH)
        self.assertEqual(ask(*calls, merge(0, 2), HELD)[-2:], [[2], [0, 2]])
        self.assertEqual(ask(*calls, merge(0, 1), HELD)[-2:], [[3], [0, 3]])
        self.assertEqual(ask(*calls, merge(0, 2), merge(0, 2), HELD)[-2:], [[0], [0, 0]])

    def test_drops_stay_behind_runs_without_their_key(self):
        asked = ask(BEGIN, pair(2), FLUSH, drop("1"), FLUSH, merge(0, 1), HELD)
        self.assertEqual(asked[-2:], [[2], [0, 2]])

    def test_no_run_if_nothing_is_left(self):
        calls = (BEGIN, drop("1"), FLUSH)
        self.assertEqual(ask(*calls, merge(0, 1), HELD, merge(0, 1))[-3:], [[0], [0, 0], NO_RUNS])
        calls = (BEGIN, drop("1"), FLUSH, pair(2), FLUSH)
        self.assertEqual(ask(*calls, merge(1, 1), HELD, merge(0, 1))[-3:], [[1], [0, 1], [1]])

    def test_snapshot_keeps_what_it_reads(self):
        calls = (BEGIN, pair(1), pair(1), SNAP, pair(1), pair(1), SNAP, pair(1), FLUSH)
        self.assertEqual(ask(*calls, merge(0, 1), HELD)[-1], [0, 3])
        self.assertEqual(ask(*calls, close(0), merge(0, 1), HELD)[-1], [0, 2])
        self.assertEqual(ask(*calls, close(1), merge(0, 1), HELD)[-1], [0, 2])
        self.assertEqual(ask(*calls, close(0), close(1), merge(0, 1), HELD)[-1], [0, 1])

    def test_snapshots_of_one_point_keep_one_entry(self):
        asked = ask(BEGIN, pair(1), SNAP, SNAP, pair(1), FLUSH, merge(0, 1), HELD)
        self.assertEqual(asked[-1], [0, 2])

    def test_snapshot_before_all_entries_keeps_none(self):
        asked = ask(BEGIN, SNAP, pair(1), pair(1), FLUSH, merge(0, 1), HELD)
        self.assertEqual(asked[-1], [0, 1])

    def test_snapshot_after_the_merge_brings_nothing_back(self):
        asked = ask(BEGIN, pair(1), pair(1), FLUSH, merge(0, 1), SNAP, merge(0, 1), HELD)
        self.assertEqual(asked[-1], [0, 1])

    def test_snapshot_keeps_the_newest_of_each_key(self):
        asked = ask(BEGIN, pair(1), pair(2), pair(1), SNAP, pair(2), pair(3), FLUSH, merge(0, 1), HELD)
        self.assertEqual(asked[-1], [0, 4])

    def test_now_reads_newer_than_a_later_snapshot_without_entries_between(self):
        asked = ask(BEGIN, pair(1), pair(1), SNAP, FLUSH, merge(0, 1), HELD)
        self.assertEqual(asked[-1], [0, 1])

    def test_oldest_drops_are_left_out_again_and_again(self):
        calls = (BEGIN, drop("1"), SNAP, drop("1"), SNAP, drop("1"), FLUSH)
        self.assertEqual(ask(*calls, merge(0, 1), HELD)[-2:], [[0], [0, 0]])

    def test_drops_with_an_older_row_stay(self):
        calls = (BEGIN, drop("1"), SNAP, pair(1), SNAP, drop("1"), SNAP, drop("1"), FLUSH)
        self.assertEqual(ask(*calls, merge(0, 1), HELD)[-2:], [[1], [0, 3]])
        self.assertEqual(ask(*calls, close(1), merge(0, 1), HELD)[-2:], [[0], [0, 0]])
        self.assertEqual(ask(*calls, close(2), merge(0, 1), HELD)[-2:], [[1], [0, 2]])

    def test_drop_below_a_row_is_left_out(self):
        calls = (BEGIN, drop("1"), SNAP, pair(1), FLUSH)
        self.assertEqual(ask(*calls, merge(0, 1), HELD)[-1], [0, 1])

    def test_kept_entries_are_in_order(self):
        newer = sorted_run([Entry((1,), 4, None), Entry((3,), 5, [])])
        older = sorted_run([Entry((2,), 1, []), Entry((1,), 2, []), Entry((3,), 3, [])])
        order = [(entry.key, entry.number) for entry in merged_run([newer, older], [3, 5], True)]
        self.assertEqual(order, [((1,), 4), ((1,), 2), ((2,), 1), ((3,), 5), ((3,), 3)])

    def test_a_row_stays_with_its_entry(self):
        table = Table()
        table.schema(list(PAIRS.encode()), [0])
        table.put(list(b"{k:1;v:1}"))
        table.put(list(b"{k:1;v:2}"))
        table.flush()
        table.merge(0, 1)
        self.assertEqual([(entry.number, bytes(entry.row)) for entry in table.run_list[0]], [(2, b"{k:1;v:2}")])


class TestAdvise(unittest.TestCase):
    def test_fewer_than_two_runs(self):
        self.assertEqual(last(BEGIN, ADVISE), NO_RUNS)
        self.assertEqual(last(*runs_of(3), ADVISE), NO_RUNS)
        self.assertEqual(last(*runs_of(3), pair(1), ADVISE), NO_RUNS)
        self.assertEqual(last(*runs_of(3, 4), ADVISE), [0, 7])

    def test_fewest_together(self):
        self.assertEqual(last(*runs_of(3, 9, 2, 4, 5), ADVISE), [2, 6])
        self.assertEqual(last(*runs_of(1, 9, 9, 1, 8), ADVISE), [3, 9])
        self.assertEqual(last(*runs_of(1, 2, 9, 1, 8), ADVISE), [0, 3])

    def test_of_equally_few_the_newest(self):
        self.assertEqual(last(*runs_of(5, 4, 2, 3, 3, 2), ADVISE), [2, 5])
        self.assertEqual(last(*runs_of(*[1] * 12), ADVISE), [0, 2])

    def test_last_pair(self):
        self.assertEqual(last(*runs_of(*([2] * 11 + [1])), ADVISE), [10, 3])

    def test_fresh_entries_do_not_count(self):
        self.assertEqual(last(*runs_of(3, 4), pair(1), ADVISE), [0, 7])

    def test_changes_nothing(self):
        asked = ask(*runs_of(3, 4), ADVISE, HELD, ADVISE, FLUSH)
        self.assertEqual(asked[-4:], [[0, 7], [0, 7], [0, 7], [2]])
