"""Promise 11: runs and run."""

import unittest

from helper import FLUSH, HELD, NO_RUNS, NO_SCHEMA, NOW, PAIRS, RUNS, SNAP
from helper import ask, close, drop, entry_list, last, merge, pair, put, run, scan_pairs, schema

BEGIN = schema(PAIRS, 0)


def got(*calls):
    return last(BEGIN, *calls)


def entries_of_pairs(*entries):
    return entry_list(*[((str(key),), number, has_row) for key, number, has_row in entries])


class TestRuns(unittest.TestCase):
    def test_none(self):
        self.assertEqual(got(RUNS), [0])
        self.assertEqual(got(pair(1), RUNS), [0])
        self.assertEqual(got(FLUSH, RUNS), [0])

    def test_entries_and_drops_of_each(self):
        self.assertEqual(got(pair(1), FLUSH, RUNS), [1, 1, 0])
        self.assertEqual(got(drop("1"), FLUSH, RUNS), [1, 1, 1])
        older = (pair(1), pair(2), pair(1), FLUSH, drop("1"), pair(2), FLUSH)
        newest = (drop("1"), drop("1"), pair(3), drop("4"), FLUSH)
        self.assertEqual(got(*older, *newest, RUNS), [3, 4, 3, 2, 1, 3, 0])

    def test_fresh_entries_do_not_count(self):
        self.assertEqual(got(pair(1), FLUSH, pair(1), drop("1"), RUNS), [1, 1, 0])

    def test_behind_merges(self):
        calls = (pair(1), FLUSH, drop("1"), pair(2), FLUSH, drop("2"), FLUSH)
        self.assertEqual(got(*calls, RUNS), [3, 1, 1, 2, 1, 1, 0])
        self.assertEqual(got(*calls, merge(0, 2), RUNS), [2, 2, 2, 1, 0])
        self.assertEqual(got(*calls, merge(1, 2), RUNS), [2, 1, 1, 1, 0])
        self.assertEqual(got(*calls, merge(0, 3), RUNS), [0])

    def test_twelve(self):
        self.assertEqual(got(*[pair(1), drop("2"), FLUSH] * 12, RUNS), [12] + [2, 1] * 12)

    def test_new_schema_has_none(self):
        self.assertEqual(got(pair(1), FLUSH, BEGIN, RUNS), [0])

    def test_without_a_schema(self):
        self.assertEqual(ask(RUNS), [NO_SCHEMA])


class TestRun(unittest.TestCase):
    def test_one_entry(self):
        self.assertEqual(got(pair(5), FLUSH, run(0)), [1, 1, 53, 1, 1])
        self.assertEqual(got(drop("-12"), FLUSH, run(0)), [1, 3, 45, 49, 50, 1, 0])

    def test_by_key_and_those_of_one_key_by_falling_numbers(self):
        calls = (pair(2), pair(-1), pair(10), drop("2"), pair(-1), pair(9), FLUSH)
        expected = entries_of_pairs((-1, 5, 1), (-1, 2, 1), (2, 4, 0), (2, 1, 1), (9, 6, 1), (10, 3, 1))
        self.assertEqual(got(*calls, run(0)), expected)

    def test_newest_run_is_the_first(self):
        calls = (pair(1), FLUSH, pair(2), FLUSH, drop("3"), FLUSH, pair(4))
        self.assertEqual(got(*calls, run(0)), entries_of_pairs((3, 3, 0)))
        self.assertEqual(got(*calls, run(1)), entries_of_pairs((2, 2, 1)))
        self.assertEqual(got(*calls, run(2)), entries_of_pairs((1, 1, 1)))

    def test_whole_numbers(self):
        literals = [str(number) for number in (-2 ** 63, -10, -9, -1, 0, 1, 9, 10, 99, 2 ** 63 - 1)]
        calls = [schema("{1k!i64}", 0)] + [put("{k:%s}" % literal) for literal in literals] + [FLUSH, run(0)]
        expected = entry_list(*[((literal,), number, 1) for number, literal in enumerate(literals, start=1)])
        self.assertEqual(last(*calls), expected)

    def test_bits(self):
        calls = (schema("{1k!b}", 0), put("{k:1}"), drop("0"), FLUSH, run(0))
        self.assertEqual(last(*calls), entry_list((("0",), 2, 0), (("1",), 1, 1)))

    def test_every_byte(self):
        literals = []
        for byte in range(256):
            plain = 32 <= byte <= 126 and byte not in b'"\\'
            literals.append('"%s"' % (chr(byte) if plain else "\\%02x" % byte))
        for part in (literals[:128], literals[128:]):
            expected = entry_list(*[((literal,), number, 1) for number, literal in enumerate(part, start=1)])
            calls = [schema("{1k!t1}", 0)] + [put("{k:%s}" % literal) for literal in part] + [FLUSH, run(0)]
            self.assertEqual(last(*calls), expected)

    def test_texts(self):
        literals = ('""', '"\\00\\22\\5c"', '"a"', '"a b;"', '"a{:}"')
        calls = [schema("{1k!t4}", 0)] + [drop(literal) for literal in literals] + [FLUSH, run(0)]
        expected = entry_list(*[((literal,), number, 0) for number, literal in enumerate(literals, start=1)])
        self.assertEqual(last(*calls), expected)

    def test_longest_text(self):
        longest = '"%s"' % ("\\00" * 999)
        calls = (schema("{1a!t999;2b!t999;3c!t999}", 0, 1, 2), drop(longest, longest, longest), FLUSH, run(0))
        self.assertEqual(last(*calls), entry_list(((longest, longest, longest), 1, 0)))

    def test_key_columns_in_the_order_told(self):
        text = '{a:-7;b:"x\\0a";c:1;d:12345}'
        literals = ("-7", '"x\\0a"', "1", "12345")
        for columns in ((0,), (3,), (1, 0), (0, 1), (3, 2, 1), (2, 0, 3)):
            calls = (schema("{1a!i8;2b!t3;3c!b;4d!i64}", *columns), put(text), FLUSH, run(0))
            self.assertEqual(last(*calls), entry_list((tuple(literals[column] for column in columns), 1, 1)), columns)

    def test_several_columns_stand_by_the_first_that_differs(self):
        rows = (put("{a:5;b:1}"), put("{a:2;b:3}"), put("{a:4;b:1}"), put("{a:9;b:-1}"))
        expected = entry_list((("-1", "9"), 4, 1), (("1", "4"), 3, 1), (("1", "5"), 1, 1), (("3", "2"), 2, 1))
        self.assertEqual(last(schema("{1a!i8;2b!i8}", 1, 0), *rows, FLUSH, run(0)), expected)

    def test_behind_merges(self):
        calls = (pair(1), pair(2), FLUSH, SNAP, drop("1"), pair(3), FLUSH, pair(1), drop("3"), FLUSH)
        self.assertEqual(got(*calls, merge(0, 2), run(0)), entries_of_pairs((1, 5, 1), (3, 6, 0)))
        self.assertEqual(got(*calls, merge(0, 3), run(0)), entries_of_pairs((1, 5, 1), (1, 1, 1), (2, 2, 1)))
        self.assertEqual(got(*calls, merge(1, 2), run(1)), entries_of_pairs((1, 3, 0), (1, 1, 1), (2, 2, 1), (3, 4, 1)))
        self.assertEqual(got(*calls, close(0), merge(0, 3), run(0)), entries_of_pairs((1, 5, 1), (2, 2, 1)))

    def test_200_entries(self):
        calls = [pair(1)] * 200 + [FLUSH, run(0)]
        self.assertEqual(got(*calls), entries_of_pairs(*[(1, number, 1) for number in range(200, 0, -1)]))

    def test_whole_numbers_and_no_others(self):
        for answer in ask(BEGIN, pair(1), drop("2"), FLUSH, run(0), RUNS):
            self.assertEqual({type(number) for number in answer}, {int})


class TestRunRefusals(unittest.TestCase):
    def test_no_run_of_this_number(self):
        for number in (-1, 0, 1, 10 ** 18, -10 ** 18):
            self.assertEqual(got(run(number)), NO_RUNS, number)
            self.assertEqual(got(pair(1), run(number)), NO_RUNS, number)
        for number in (-1, -2, -3, 2, 3, 10 ** 18, -10 ** 18):
            self.assertEqual(got(pair(1), FLUSH, pair(1), FLUSH, run(number)), NO_RUNS, number)

    def test_a_run_that_was_merged_away(self):
        calls = (pair(1), FLUSH, pair(1), FLUSH)
        self.assertEqual(got(*calls, merge(0, 2), run(1)), NO_RUNS)
        self.assertEqual(got(drop("1"), FLUSH, merge(0, 1), run(0)), NO_RUNS)

    def test_without_a_schema(self):
        self.assertEqual(ask(run(0), run(-1)), [NO_SCHEMA, NO_SCHEMA])


class TestChangesNothing(unittest.TestCase):
    SEEN = (HELD, RUNS, run(0), run(1), scan_pairs(NOW, 9, -128, 127), scan_pairs(0, 9, -128, 127), FLUSH, SNAP, pair(1))

    def test_answered_or_refused(self):
        written = (BEGIN, pair(1, 1), FLUSH, SNAP, drop("1"), pair(2), FLUSH, pair(3))
        seen = ask(*written, *self.SEEN)[len(written):]
        for call in (RUNS, run(0), run(1), run(2), run(-1)):
            self.assertEqual(ask(*written, call, *self.SEEN)[len(written) + 1:], seen, call)
