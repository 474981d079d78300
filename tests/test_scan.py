"""Promise 10: scan, and what the document says of the runs that are opened for a range of keys."""

import unittest

from helper import EXAMPLE, EXAMPLE_ROW, FLUSH, HELD, NO_KEY, NO_LIMIT, NO_SCHEMA, NO_SNAPSHOT, NOW, PAIRS, RUNS, SNAP
from helper import ask, close, drop, get, key_list, last, many_rows, merge, pair, pair_text, put, run, scan
from helper import scan_pairs, schema

BEGIN = schema(PAIRS, 0)
ALL = (-128, 127)


def got(*calls):
    return last(BEGIN, *calls)


def pairs(opened, *keys):
    return many_rows(opened, *[pair_text(key) for key in keys])


class TestAnswer(unittest.TestCase):
    def test_no_rows(self):
        self.assertEqual(got(scan_pairs(NOW, 9, *ALL)), [0, 0])
        self.assertEqual(got(drop("1"), scan_pairs(NOW, 9, *ALL)), [0, 0])
        self.assertEqual(got(drop("1"), FLUSH, scan_pairs(NOW, 9, *ALL)), [1, 0])

    def test_each_row_with_its_length(self):
        answer = got(pair(1, 5), pair(2, -100), FLUSH, scan_pairs(NOW, 9, *ALL))
        self.assertEqual(answer, [1, 2, 9] + list(b"{k:1;v:5}") + [12] + list(b"{k:2;v:-100}"))

    def test_by_rising_keys(self):
        keys = (5, -10, 100, 0, -9, 10, 9, -128, 127)
        for calls, opened in (([pair(key) for key in keys], 0), ([pair(key) for key in keys] + [FLUSH], 1)):
            self.assertEqual(got(*calls, scan_pairs(NOW, 99, *ALL)), pairs(opened, *sorted(keys)))

    def test_by_rising_keys_from_fresh_entries_and_runs(self):
        calls = (pair(4), pair(1), FLUSH, pair(5), pair(2), FLUSH, pair(3), pair(0))
        self.assertEqual(got(*calls, scan_pairs(NOW, 9, *ALL)), pairs(2, 0, 1, 2, 3, 4, 5))

    def test_newest_row_of_each_key_once(self):
        calls = (pair(1, 1), pair(2, 1), FLUSH, pair(1, 2), pair(1, 3), FLUSH, pair(2, 4), pair(2, 5))
        self.assertEqual(got(*calls, scan_pairs(NOW, 9, *ALL)), many_rows(2, pair_text(1, 3), pair_text(2, 5)))

    def test_dropped_keys_are_left_out(self):
        calls = (pair(1), pair(2), pair(3), pair(4), FLUSH, drop("1"), drop("3"), FLUSH, drop("2"), pair(3, 0))
        self.assertEqual(got(*calls, scan_pairs(NOW, 9, *ALL)), pairs(2, 3, 4))

    def test_both_ends_belong_to_the_range(self):
        calls = [pair(key) for key in range(1, 8)]
        for low, high, keys in ((2, 4, (2, 3, 4)), (1, 7, range(1, 8)), (0, 1, (1,)), (7, 9, (7,)), (3, 3, (3,)),
                                (8, 9, ()), (-3, 0, ()), (4, 3, ()), (7, 1, ())):
            self.assertEqual(got(*calls, scan_pairs(NOW, 9, low, high))[1:], pairs(0, *keys)[1:], (low, high))
            answer = got(*calls, FLUSH, scan_pairs(NOW, 9, low, high))
            self.assertEqual(answer[1:], pairs(0, *keys)[1:], (low, high))

    def test_ends_need_not_be_there(self):
        calls = (pair(1), pair(5), pair(9), FLUSH)
        self.assertEqual(got(*calls, scan_pairs(NOW, 9, 2, 8)), pairs(1, 5))
        self.assertEqual(got(*calls, scan_pairs(NOW, 9, 2, 4)), pairs(1))

    def test_rows_stand_as_they_were_put(self):
        other = EXAMPLE_ROW.replace("id:5", "id:-5")
        begun = (schema(EXAMPLE, 0), put(EXAMPLE_ROW), put(other), FLUSH, merge(0, 1))
        answer = last(*begun, scan(NOW, 9, key_list("-2147483648"), key_list("2147483647")))
        self.assertEqual(answer, many_rows(1, other, EXAMPLE_ROW))

    def test_200_rows(self):
        rows = ["{k:%d}" % key for key in range(-100, 100)]
        begun = [schema("{1k!i16}", 0)] + [put(row) for row in reversed(rows)]
        whole = scan(NOW, 10 ** 18, key_list("-32768"), key_list("32767"))
        self.assertEqual(last(*begun, whole), many_rows(0, *rows))
        self.assertEqual(last(*begun, FLUSH, whole), many_rows(1, *rows))

    def test_whole_numbers_and_no_others(self):
        for answer in ask(BEGIN, pair(1), scan_pairs(NOW, 1, *ALL), FLUSH, scan_pairs(NOW, 1, *ALL)):
            self.assertEqual({type(number) for number in answer}, {int})


class TestLimit(unittest.TestCase):
    def test_no_more_than_the_limit(self):
        keys = (1, 2, 3, 4)
        for limit in (0, 1, 2, 3, 4, 5, 10 ** 18):
            calls = [pair(key) for key in keys] + [FLUSH]
            self.assertEqual(got(*calls, scan_pairs(NOW, limit, *ALL)), pairs(1, *keys[:limit]), limit)

    def test_counts_rows_and_not_entries(self):
        calls = (pair(1), drop("1"), pair(2), pair(2), drop("3"), pair(4), pair(5))
        self.assertEqual(got(*calls, scan_pairs(NOW, 2, *ALL)), pairs(0, 2, 4))
        self.assertEqual(got(*calls, FLUSH, scan_pairs(NOW, 2, *ALL)), pairs(1, 2, 4))

    def test_counts_from_the_beginning_of_the_range(self):
        calls = [pair(key) for key in (1, 2, 3, 4, 5)]
        self.assertEqual(got(*calls, scan_pairs(NOW, 2, 3, 5)), pairs(0, 3, 4))

    def test_does_not_change_how_many_runs_are_opened(self):
        calls = (pair(1), FLUSH, pair(2), FLUSH, pair(3), FLUSH)
        for limit in (0, 1, 2, 3):
            self.assertEqual(got(*calls, scan_pairs(NOW, limit, *ALL))[0], 3, limit)


class TestOpenedRuns(unittest.TestCase):
    def test_runs_that_the_range_meets(self):
        # From the newest on: 1 to 3, 5 to 7, 9 alone.
        calls = (pair(9), FLUSH, pair(5), pair(7), FLUSH, pair(1), pair(3), FLUSH)
        for low, high, opened in ((-5, 0, 0), (-5, 1, 1), (-5, 2, 1), (2, 2, 1), (3, 3, 1), (3, 4, 1), (4, 4, 0), (4, 5, 1),
                                  (3, 5, 2), (2, 6, 2), (6, 6, 1), (7, 8, 1), (8, 8, 0), (7, 9, 2), (6, 20, 2), (8, 9, 1),
                                  (9, 9, 1), (9, 20, 1), (10, 20, 0), (1, 9, 3), (-128, 127, 3), (4, 8, 1)):
            self.assertEqual(got(*calls, scan_pairs(NOW, 9, low, high))[0], opened, (low, high))

    def test_none_if_the_end_is_before_the_beginning(self):
        calls = (pair(1), pair(9), FLUSH, pair(5), FLUSH)
        for low, high in ((6, 5), (5, 4), (9, 1), (2, 1), (127, -128), (6, 4)):
            self.assertEqual(got(*calls, pair(5), scan_pairs(NOW, 9, low, high)), [0, 0], (low, high))

    def test_a_run_with_no_key_within_the_range_is_opened(self):
        self.assertEqual(got(pair(1), pair(9), FLUSH, scan_pairs(NOW, 9, 4, 6)), [1, 0])

    def test_a_run_whose_rows_are_hidden_is_opened(self):
        calls = (pair(1), FLUSH, pair(1), FLUSH, pair(1))
        self.assertEqual(got(*calls, scan_pairs(NOW, 9, 1, 1)), pairs(2, 1))
        self.assertEqual(got(pair(1), FLUSH, drop("1"), FLUSH, scan_pairs(NOW, 9, 1, 1)), [2, 0])

    def test_a_run_behind_the_point_is_opened(self):
        self.assertEqual(got(SNAP, pair(1), FLUSH, scan_pairs(0, 9, *ALL)), [1, 0])

    def test_drops_are_first_and_last_too(self):
        calls = (drop("1"), pair(5), drop("9"), FLUSH)
        for low, high, opened in ((0, 0, 0), (1, 1, 1), (9, 9, 1), (10, 11, 0), (6, 20, 1)):
            self.assertEqual(got(*calls, scan_pairs(NOW, 9, low, high))[0], opened, (low, high))

    def test_fresh_entries_open_none(self):
        self.assertEqual(got(pair(1), pair(2), scan_pairs(NOW, 9, *ALL)), pairs(0, 1, 2))

    def test_merged_runs_are_one(self):
        calls = (pair(1), FLUSH, pair(2), FLUSH, pair(3), FLUSH)
        self.assertEqual(got(*calls, merge(0, 2), scan_pairs(NOW, 9, *ALL)), pairs(2, 1, 2, 3))
        self.assertEqual(got(*calls, merge(0, 3), scan_pairs(NOW, 9, *ALL)), pairs(1, 1, 2, 3))


class TestKeys(unittest.TestCase):
    def test_texts_stand_by_their_bytes(self):
        literals = ('""', '"\\00"', '" "', '"!"', '"\\22"', '"#"', '"A"', '"["', '"\\5c"', '"]"', '"a"', '"a\\00"', '"aa"',
                    '"ab"', '"b"', '"~"', '"\\7f"', '"\\80"', '"\\ff"', '"\\ff\\00"')
        rows = ["{k:%s}" % literal for literal in literals]
        begun = [schema("{1k!t4}", 0)] + [put(row) for row in reversed(rows)]
        whole = scan(NOW, 99, key_list('""'), key_list('"\\ff\\ff"'))
        self.assertEqual(last(*begun, whole), many_rows(0, *rows))
        self.assertEqual(last(*begun, FLUSH, whole), many_rows(1, *rows))
        for first in range(len(rows)):
            part = scan(NOW, 3, key_list(literals[first]), key_list('"\\ff\\ff"'))
            self.assertEqual(last(*begun, part), many_rows(0, *rows[first:first + 3]))

    def test_several_columns(self):
        rows = ['{a:%d;b:"%s"}' % (a, b) for b in ("", "x", "y") for a in (-2, 1, 10)]
        begun = [schema("{1a!i8;2b!t4}", 1, 0)] + [put(row) for row in reversed(rows)] + [FLUSH]
        for low, high, found in ((('""', "-128"), ('"y"', "127"), rows), (('"x"', "1"), ('"y"', "-2"), rows[4:7]),
                                 (('""', "11"), ('"x"', "-3"), []), (('""', "10"), ('"x"', "-2"), rows[2:4])):
            answer = last(*begun, scan(NOW, 99, key_list(*low), key_list(*high)))
            self.assertEqual(answer, many_rows(1, *found), (low, high))

    def test_end_before_the_beginning_in_a_later_column(self):
        begun = (schema("{1a!i8;2b!i8}", 0, 1), put("{a:1;b:1}"), put("{a:1;b:9}"), FLUSH)
        self.assertEqual(last(*begun, scan(NOW, 9, key_list("1", "6"), key_list("1", "5"))), [0, 0])
        self.assertEqual(last(*begun, scan(NOW, 9, key_list("1", "9"), key_list("0", "127"))), [0, 0])
        self.assertEqual(last(*begun, scan(NOW, 9, key_list("0", "9"), key_list("1", "5"))), many_rows(1, "{a:1;b:1}"))


class TestPoints(unittest.TestCase):
    WRITTEN = (SNAP, pair(1, 1), pair(2, 1), SNAP, pair(1, 2), drop("2"), pair(3, 2), SNAP, pair(2, 3), drop("1"))
    READ = (
        (0, ()),
        (1, (pair_text(1, 1), pair_text(2, 1))),
        (2, (pair_text(1, 2), pair_text(3, 2))),
        (NOW, (pair_text(2, 3), pair_text(3, 2))),
    )

    def test_fresh_flushed_and_merged(self):
        each_flushed = []
        for call in self.WRITTEN:
            each_flushed += [call, FLUSH]
        ways = ((self.WRITTEN, 0), (self.WRITTEN + (FLUSH,), 1), (self.WRITTEN + (FLUSH, merge(0, 1)), 1), (each_flushed, 7),
                (each_flushed + [merge(0, 7)], 1), (each_flushed + [merge(2, 3), merge(1, 3)], 3),
                (each_flushed + [merge(5, 2), merge(0, 2), merge(1, 2), merge(0, 4)], 1))
        for calls, opened in ways:
            for point, rows in self.READ:
                self.assertEqual(got(*calls, scan_pairs(point, 9, *ALL)), many_rows(opened, *rows), (point, calls))

    def test_closing_one_leaves_the_others(self):
        for merges in ((), (FLUSH, merge(0, 1))):
            calls = self.WRITTEN + (close(1),) + merges
            opened = len(merges) // 2
            self.assertEqual(got(*calls, scan_pairs(1, 9, *ALL)), NO_SNAPSHOT)
            self.assertEqual(got(*calls, scan_pairs(2, 9, *ALL)), many_rows(opened, *self.READ[2][1]))
            self.assertEqual(got(*calls, scan_pairs(0, 9, *ALL)), many_rows(opened))
            self.assertEqual(got(*calls, scan_pairs(NOW, 9, *ALL)), many_rows(opened, *self.READ[3][1]))

    def test_fresh_entry_behind_the_point_hides_nothing(self):
        calls = (pair(1, 1), FLUSH, SNAP, pair(1, 2), pair(2, 2))
        self.assertEqual(got(*calls, scan_pairs(0, 9, *ALL)), many_rows(1, pair_text(1, 1)))


class TestRefusals(unittest.TestCase):
    def test_point_that_is_not_open(self):
        for point in (-2, 0, 1, 10 ** 18, -10 ** 18):
            self.assertEqual(got(pair(1), scan_pairs(point, 9, *ALL)), NO_SNAPSHOT, point)
        self.assertEqual(got(SNAP, close(0), scan_pairs(0, 9, *ALL)), NO_SNAPSHOT)
        self.assertEqual(got(SNAP, close(0), SNAP, scan_pairs(0, 9, *ALL)), NO_SNAPSHOT)
        self.assertEqual(got(SNAP, scan_pairs(1, 9, *ALL)), NO_SNAPSHOT)

    def test_limit_below_zero(self):
        for limit in (-1, -2, -10 ** 18):
            self.assertEqual(got(pair(1), scan_pairs(NOW, limit, *ALL)), NO_LIMIT, limit)
            self.assertEqual(got(pair(1), SNAP, scan_pairs(0, limit, *ALL)), NO_LIMIT, limit)
        self.assertEqual(got(pair(1), scan_pairs(NOW, 0, *ALL)), [0, 0])

    def test_no_key(self):
        good = key_list("1")
        wrong = ([], [0], [1], [2, 49], [1, 49, 50], [1, 49, 1, 49], [-1], [1, -1], [1, 256 + 49], [10 ** 18, 49],
                 key_list("128"), key_list("-129"), key_list("-0"), key_list("01"), key_list('"1"'), key_list("1", "1"))
        for numbers in wrong:
            for low, high in ((numbers, good), (good, numbers), (numbers, numbers)):
                for limit in (0, 9):
                    self.assertEqual(got(pair(1), scan(NOW, limit, low, high)), NO_KEY, (low, high))
                self.assertEqual(got(SNAP, scan(0, 9, low, high)), NO_KEY, (low, high))

    def test_keys_are_looked_at_when_the_range_is_empty(self):
        self.assertEqual(got(scan(NOW, 0, key_list("5"), key_list("-200"))), NO_KEY)

    def test_no_key_of_several_columns(self):
        begun = schema("{1a!i8;2b!t3}", 1, 0)
        good = key_list('"x"', "5")
        for literals in (("5", '"x"'), ('"x"',), ('"x"', "5", "1"), ('"x"', "500"), ('"xxxx"', "5"), ()):
            self.assertEqual(last(begun, scan(NOW, 9, key_list(*literals), good)), NO_KEY, literals)
            self.assertEqual(last(begun, scan(NOW, 9, good, key_list(*literals))), NO_KEY, literals)

    def test_order_of_refusals(self):
        good = key_list("1")
        self.assertEqual(ask(scan(7, -1, [], [])), [NO_SCHEMA])
        self.assertEqual(got(scan(0, -1, [], [])), NO_SNAPSHOT)
        self.assertEqual(got(scan(0, -1, good, good)), NO_SNAPSHOT)
        self.assertEqual(got(scan(0, 9, [], good)), NO_SNAPSHOT)
        self.assertEqual(got(scan(NOW, -1, [], good)), NO_LIMIT)
        self.assertEqual(got(scan(NOW, -1, good, [])), NO_LIMIT)
        self.assertEqual(got(scan(NOW, 0, [], good)), NO_KEY)


class TestChangesNothing(unittest.TestCase):
    SEEN = (HELD, RUNS, run(0), run(1), get(NOW, "1"), get(0, "1"), get(NOW, "3"), FLUSH, SNAP, pair(1))

    def test_answered_or_refused(self):
        written = (BEGIN, pair(1, 1), FLUSH, SNAP, drop("1"), pair(2), FLUSH, pair(3))
        seen = ask(*written, *self.SEEN)[len(written):]
        for call in (scan_pairs(NOW, 9, *ALL), scan_pairs(0, 0, *ALL), scan_pairs(NOW, 9, 5, 1), scan_pairs(1, 9, *ALL),
                     scan_pairs(NOW, -1, *ALL), scan(NOW, 9, [], key_list("1")), scan(0, 9, key_list("1"), [])):
            self.assertEqual(ask(*written, call, *self.SEEN)[len(written) + 1:], seen, call)

    def test_same_answer_again(self):
        asked = ask(BEGIN, pair(2), pair(1), FLUSH, pair(3), *[scan_pairs(NOW, 9, *ALL)] * 5)
        self.assertEqual(asked[5:], [pairs(1, 1, 2, 3)] * 5)
