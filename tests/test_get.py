"""Promise 9: get, and what the document says of reading points and of the runs that are opened for a key."""

import unittest

from helper import EXAMPLE, EXAMPLE_ROW, FLUSH, HELD, NO_KEY, NO_SCHEMA, NO_SNAPSHOT, NOW, PAIRS, RUNS, SNAP
from helper import ask, close, drop, get, get_list, key_list, last, merge, no_row, one_row, pair, pair_text, put
from helper import run, scan_pairs, schema

BEGIN = schema(PAIRS, 0)
THREE = "{1a!i8;2b!t3;3c!b;4d!i64}"


def got(*calls):
    return last(BEGIN, *calls)


class TestAnswer(unittest.TestCase):
    def test_row_among_the_fresh_entries(self):
        self.assertEqual(got(pair(1, 7), get(NOW, "1")), one_row(0, "{k:1;v:7}"))
        self.assertEqual(got(pair(1, 7), get(NOW, "1")), [0, 1, 9] + list(b"{k:1;v:7}"))

    def test_row_in_a_run(self):
        self.assertEqual(got(pair(1, 7), FLUSH, get(NOW, "1")), [1, 1, 9] + list(b"{k:1;v:7}"))

    def test_no_row_without_entries(self):
        self.assertEqual(got(get(NOW, "1")), [0, 0])

    def test_no_row_of_another_key(self):
        self.assertEqual(got(pair(1), pair(3), get(NOW, "2")), no_row(0))
        self.assertEqual(got(pair(1), pair(3), FLUSH, get(NOW, "2")), no_row(1))

    def test_no_row_behind_a_drop(self):
        self.assertEqual(got(pair(1), drop("1"), get(NOW, "1")), no_row(0))
        self.assertEqual(got(pair(1), FLUSH, drop("1"), get(NOW, "1")), no_row(0))
        self.assertEqual(got(pair(1), drop("1"), FLUSH, get(NOW, "1")), no_row(1))
        self.assertEqual(got(pair(1), FLUSH, drop("1"), FLUSH, get(NOW, "1")), no_row(1))

    def test_row_put_again_behind_a_drop(self):
        self.assertEqual(got(pair(1, 1), drop("1"), pair(1, 2), get(NOW, "1")), one_row(0, pair_text(1, 2)))
        self.assertEqual(got(pair(1, 1), drop("1"), pair(1, 2), FLUSH, get(NOW, "1")), one_row(1, pair_text(1, 2)))

    def test_newest_of_the_key(self):
        self.assertEqual(got(pair(1, 1), pair(1, 2), pair(2, 3), get(NOW, "1")), one_row(0, pair_text(1, 2)))
        self.assertEqual(got(pair(1, 1), pair(1, 2), pair(2, 3), FLUSH, get(NOW, "1")), one_row(1, pair_text(1, 2)))
        self.assertEqual(got(pair(1, 1), FLUSH, pair(1, 2), FLUSH, get(NOW, "1")), one_row(1, pair_text(1, 2)))
        self.assertEqual(got(pair(1, 1), FLUSH, pair(1, 2), get(NOW, "1")), one_row(0, pair_text(1, 2)))

    def test_row_stands_as_it_was_put(self):
        asked = last(schema(EXAMPLE, 0), put(EXAMPLE_ROW), FLUSH, merge(0, 1), get(NOW, "5"))
        self.assertEqual(asked, one_row(1, EXAMPLE_ROW))

    def test_row_of_4000_bytes(self):
        text = '{k:0;t:"%s"' % ("a" * 998) + ',"%s"' % ("b" * 998) + ',"%s"' % ("c" * 998)
        text += ',"%s"}' % ("\\00" * 300 + "d" * (4000 - len(text) - 4 - 900))
        self.assertEqual(len(text), 4000)
        asked = last(schema("{1k!b;2t*t999}", 0), put(text), get(NOW, "0"))
        self.assertEqual(asked, one_row(0, text))

    def test_whole_numbers_and_no_others(self):
        for answer in ask(BEGIN, pair(1), get(NOW, "1"), get(NOW, "2"), FLUSH, get(NOW, "1"), get(NOW, "2")):
            self.assertEqual({type(number) for number in answer}, {int})


class TestKeys(unittest.TestCase):
    def test_several_columns_in_the_order_told(self):
        row = '{a:1;b:"x";c:0;d:9}'
        for columns, key in (((0,), ("1",)), ((1, 0), ('"x"', "1")), ((3, 1, 2), ("9", '"x"', "0"))):
            begun = (schema(THREE, *columns), put(row))
            self.assertEqual(last(*begun, get(NOW, *key)), one_row(0, row))
            self.assertEqual(last(*begun, FLUSH, get(NOW, *key)), one_row(1, row))

    def test_each_column_tells_apart(self):
        begun = (schema(THREE, 1, 0), put('{a:1;b:"x";c:0;d:9}'), put('{a:2;b:"x";c:0;d:8}'), put('{a:1;b:"y";c:0;d:7}'))
        self.assertEqual(last(*begun, get(NOW, '"x"', "1")), one_row(0, '{a:1;b:"x";c:0;d:9}'))
        self.assertEqual(last(*begun, get(NOW, '"x"', "2")), one_row(0, '{a:2;b:"x";c:0;d:8}'))
        self.assertEqual(last(*begun, get(NOW, '"y"', "1")), one_row(0, '{a:1;b:"y";c:0;d:7}'))
        self.assertEqual(last(*begun, get(NOW, '"y"', "2")), no_row(0))

    def test_key_within_a_record(self):
        begun = (schema("{1a!{1x?b;2k!i8};2z!b}", 1), put("{a:{x:1;k:-5};z:0}"))
        self.assertEqual(last(*begun, get(NOW, "-5")), one_row(0, "{a:{x:1;k:-5};z:0}"))

    def test_texts_that_begin_alike(self):
        rows = ['{k:"%s"}' % text for text in ("", "a", "a\\00", "ab")]
        begun = [schema("{1k!t4}", 0)] + [put(row) for row in rows] + [FLUSH]
        for row in rows:
            self.assertEqual(last(*begun, get(NOW, row[3:-1])), one_row(1, row))
        self.assertEqual(last(*begun, get(NOW, '"aa"')), no_row(1))
        self.assertEqual(last(*begun, get(NOW, '"ab\\00"')), no_row(0))


class TestOpenedRuns(unittest.TestCase):
    def test_none_for_a_key_among_the_fresh_entries(self):
        runs = (pair(1), FLUSH, pair(1), FLUSH)
        self.assertEqual(got(*runs, pair(1, 5), get(NOW, "1")), one_row(0, pair_text(1, 5)))
        self.assertEqual(got(*runs, drop("1"), get(NOW, "1")), no_row(0))

    def test_other_fresh_keys_end_no_search(self):
        self.assertEqual(got(pair(1, 5), FLUSH, pair(0), pair(2), get(NOW, "1")), one_row(1, pair_text(1, 5)))

    def test_fresh_entries_behind_the_point_end_no_search(self):
        asked = got(pair(1, 1), FLUSH, SNAP, pair(1, 2), drop("1"), get(0, "1"))
        self.assertEqual(asked, one_row(1, pair_text(1, 1)))

    def test_fresh_entry_up_to_the_point_ends_the_search(self):
        asked = got(pair(1, 1), FLUSH, pair(1, 2), SNAP, pair(1, 3), get(0, "1"))
        self.assertEqual(asked, one_row(0, pair_text(1, 2)))

    def test_passed_over_before_the_first_key_and_behind_the_last(self):
        run_of_three = (pair(2), pair(5), pair(8), FLUSH)
        for key, opened in ((1, 0), (2, 1), (3, 1), (4, 1), (5, 1), (7, 1), (8, 1), (9, 0), (-128, 0), (127, 0)):
            self.assertEqual(got(*run_of_three, get(NOW, str(key)))[0], opened, key)

    def test_a_run_of_one_key(self):
        for key, opened in ((4, 0), (5, 1), (6, 0)):
            self.assertEqual(got(pair(5), pair(5), FLUSH, get(NOW, str(key)))[0], opened, key)

    def test_drops_are_first_and_last_too(self):
        run_with_drops = (drop("2"), pair(5), drop("8"), FLUSH)
        for key, opened in ((1, 0), (2, 1), (8, 1), (9, 0)):
            self.assertEqual(got(*run_with_drops, get(NOW, str(key))), no_row(opened), key)

    def test_entries_behind_the_point_are_first_and_last_too(self):
        calls = (pair(5), SNAP, pair(2), pair(8), FLUSH)
        for key, opened in ((1, 0), (2, 1), (3, 1), (8, 1), (9, 0)):
            self.assertEqual(got(*calls, get(0, str(key))), no_row(opened), key)
        self.assertEqual(got(*calls, get(0, "5")), one_row(1, pair_text(5)))

    def test_goes_on_behind_a_run_without_the_key(self):
        calls = (pair(3, 1), FLUSH, pair(2), pair(4), FLUSH, pair(1), pair(5), FLUSH)
        self.assertEqual(got(*calls, get(NOW, "3")), one_row(3, pair_text(3, 1)))
        self.assertEqual(got(*calls, get(NOW, "2")), one_row(2, pair_text(2)))
        self.assertEqual(got(*calls, get(NOW, "1")), one_row(1, pair_text(1)))

    def test_a_run_that_is_passed_over_does_not_count(self):
        calls = (pair(3, 1), FLUSH, pair(4), FLUSH, pair(1), pair(5), FLUSH, pair(2), FLUSH)
        self.assertEqual(got(*calls, get(NOW, "3")), one_row(2, pair_text(3, 1)))
        self.assertEqual(got(*calls, get(NOW, "4")), one_row(2, pair_text(4)))
        self.assertEqual(got(*calls, get(NOW, "2")), one_row(1, pair_text(2)))

    def test_ends_at_the_newest_entry_of_the_key(self):
        calls = (pair(1, 1), FLUSH, pair(1, 2), FLUSH, pair(0), pair(2), FLUSH)
        self.assertEqual(got(*calls, get(NOW, "1")), one_row(2, pair_text(1, 2)))

    def test_ends_at_a_drop(self):
        self.assertEqual(got(pair(1), FLUSH, drop("1"), FLUSH, pair(0), pair(2), FLUSH, get(NOW, "1")), no_row(2))

    def test_goes_on_behind_a_run_with_the_key_only_behind_the_point(self):
        calls = (pair(1, 1), FLUSH, SNAP, pair(1, 2), FLUSH, drop("1"), FLUSH)
        self.assertEqual(got(*calls, get(0, "1")), one_row(3, pair_text(1, 1)))
        self.assertEqual(got(SNAP, *calls, get(0, "1")), no_row(3))
        self.assertEqual(got(*calls, get(NOW, "1")), no_row(1))

    def test_twelve_runs(self):
        calls = [pair(1, 1), FLUSH] + [pair(0), pair(2), FLUSH] * 11
        self.assertEqual(got(*calls, get(NOW, "1")), one_row(12, pair_text(1, 1)))

    def test_texts_stand_by_their_bytes(self):
        # Byte 34 is behind 33 and before 35, but its sign \ in the literal is behind all of these.
        begun = (schema("{1k!t4}", 0), put('{k:"!"}'), put('{k:"#"}'), FLUSH)
        for literal, opened in (('" "', 0), ('"!"', 1), ('"!\\00"', 1), ('"\\22"', 1), ('"#"', 1), ('"#\\00"', 0),
                                ('"\\00"', 0), ('""', 0), ('"\\5c"', 0)):
            self.assertEqual(last(*begun, get(NOW, literal))[0], opened, literal)

    def test_whole_numbers_stand_by_number(self):
        calls = (pair(-10), pair(9), FLUSH)
        for key, opened in ((-11, 0), (-10, 1), (-9, 1), (-1, 1), (0, 1), (8, 1), (9, 1), (10, 0), (-100, 0), (80, 0)):
            self.assertEqual(got(*calls, get(NOW, str(key)))[0], opened, key)

    def test_keys_of_several_columns_stand_by_the_first_that_differs(self):
        begun = (schema("{1a!i8;2b!i8}", 1, 0), put("{a:5;b:1}"), put("{a:2;b:3}"), FLUSH)
        keys = ((1, 4, 0), (1, 5, 1), (1, 6, 1), (2, -9, 1), (3, 1, 1), (3, 2, 1), (3, 3, 0), (0, 9, 0), (4, 0, 0))
        for b, a, opened in keys:
            self.assertEqual(last(*begun, get(NOW, str(b), str(a)))[0], opened, (b, a))


class TestPoints(unittest.TestCase):
    WRITTEN = (SNAP, pair(1, 1), SNAP, pair(1, 2), SNAP, SNAP, drop("1"), SNAP, pair(1, 3))
    READ = ((0, None), (1, 1), (2, 2), (3, 2), (4, None), (NOW, 3))

    def read_at_all_points(self, opened, *calls, written=WRITTEN):
        for point, value in self.READ:
            answer = got(*written, *calls, get(point, "1"))
            if value is None:
                self.assertEqual(answer[1:], [0], point)
            else:
                self.assertEqual(answer, one_row(opened, pair_text(1, value)), point)

    def test_fresh(self):
        self.read_at_all_points(0)

    def test_behind_a_flush(self):
        self.read_at_all_points(1, FLUSH)

    def test_behind_a_merge(self):
        self.read_at_all_points(1, FLUSH, merge(0, 1))
        self.read_at_all_points(1, FLUSH, merge(0, 1), merge(0, 1))

    def test_behind_a_merge_of_several_runs(self):
        calls = []
        for call in self.WRITTEN:
            calls += [call, FLUSH]
        for merges in ((merge(0, 4),), (merge(0, 2), merge(0, 3)), (merge(2, 2), merge(0, 2), merge(0, 2))):
            self.read_at_all_points(1, *merges, written=calls)

    def test_snapshot_goes_on_whatever_is_written(self):
        calls = (pair(1, 1), SNAP, drop("1"), FLUSH, pair(1, 2), FLUSH, merge(0, 2), pair(1, 3))
        self.assertEqual(got(*calls, get(0, "1")), one_row(1, pair_text(1, 1)))

    def test_now_goes_on_when_snapshots_are_open(self):
        self.assertEqual(got(pair(1, 1), SNAP, pair(1, 2), get(NOW, "1")), one_row(0, pair_text(1, 2)))

    def test_closing_one_leaves_the_others(self):
        calls = (pair(1, 1), SNAP, pair(1, 2), SNAP, pair(1, 3), close(0))
        self.assertEqual(got(*calls, get(1, "1")), one_row(0, pair_text(1, 2)))
        self.assertEqual(got(*calls, FLUSH, merge(0, 1), get(1, "1")), one_row(1, pair_text(1, 2)))
        self.assertEqual(got(*calls, get(0, "1")), NO_SNAPSHOT)

    def test_new_schema_has_no_snapshots_and_no_rows(self):
        calls = (pair(1, 1), FLUSH, SNAP, pair(1, 2), BEGIN)
        self.assertEqual(got(*calls, get(NOW, "1")), no_row(0))
        self.assertEqual(got(*calls, get(0, "1")), NO_SNAPSHOT)
        self.assertEqual(got(*calls, SNAP, pair(1, 3), get(0, "1")), no_row(0))


class TestRefusals(unittest.TestCase):
    def test_point_that_is_not_open(self):
        for point in (-2, 0, 1, 10 ** 18, -10 ** 18):
            self.assertEqual(got(pair(1), get(point, "1")), NO_SNAPSHOT, point)
        for point in (-2, 2, 3, 10 ** 18, -10 ** 18):
            self.assertEqual(got(SNAP, SNAP, pair(1), get(point, "1")), NO_SNAPSHOT, point)

    def test_closed_point(self):
        self.assertEqual(got(pair(1), SNAP, close(0), get(0, "1")), NO_SNAPSHOT)
        self.assertEqual(got(pair(1), SNAP, close(0), SNAP, get(0, "1")), NO_SNAPSHOT)

    def test_entry_number_is_no_point(self):
        self.assertEqual(got(pair(1), pair(1), SNAP, get(1, "1")), NO_SNAPSHOT)

    def test_no_key(self):
        wrong = ([], [0], [1], [2, 49], [1, 49, 50], [1, 49, 1, 49], [-1], [-1, 49], [1, -1], [1, 256 + 49], [10 ** 18, 49],
                 key_list("128"), key_list("-129"), key_list("-0"), key_list("01"), key_list(""), key_list('"1"'),
                 key_list("1", "1"), key_list("9" * 9000))
        for numbers in wrong:
            for calls in ((), (pair(1),), (pair(1), FLUSH)):
                self.assertEqual(got(*calls, get_list(NOW, numbers)), NO_KEY, numbers)
            self.assertEqual(got(SNAP, get_list(0, numbers)), NO_KEY, numbers)

    def test_no_key_of_several_columns(self):
        begun = schema(THREE, 1, 0)
        for literals in (("5", '"x"'), ('"x"',), ('"x"', "5", "1"), ('"x"', "500"), ('"xxxx"', "5"), ('"x"', ""), ()):
            self.assertEqual(last(begun, get(NOW, *literals)), NO_KEY, literals)

    def test_point_is_looked_at_before_the_key(self):
        self.assertEqual(got(get_list(0, [])), NO_SNAPSHOT)
        self.assertEqual(got(get_list(-2, key_list("128"))), NO_SNAPSHOT)

    def test_schema_is_looked_at_first(self):
        self.assertEqual(ask(get_list(7, [])), [NO_SCHEMA])
        self.assertEqual(ask(get(NOW, "1")), [NO_SCHEMA])


class TestChangesNothing(unittest.TestCase):
    SEEN = (HELD, RUNS, run(0), run(1), scan_pairs(NOW, 9, -128, 127), scan_pairs(0, 9, -128, 127), FLUSH, SNAP, pair(1))

    def test_answered_or_refused(self):
        written = (BEGIN, pair(1, 1), FLUSH, SNAP, drop("1"), pair(2), FLUSH, pair(3))
        seen = ask(*written, *self.SEEN)[len(written):]
        for call in (get(NOW, "1"), get(0, "1"), get(NOW, "3"), get(1, "1"), get(-2, "1"), get(NOW, "x"), get_list(0, [])):
            self.assertEqual(ask(*written, call, *self.SEEN)[len(written) + 1:], seen, call)

    def test_same_answer_again(self):
        asked = ask(BEGIN, pair(1), FLUSH, *[get(NOW, "1")] * 5)
        self.assertEqual(asked[3:], [one_row(1, pair_text(1))] * 5)
