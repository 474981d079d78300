"""Promise 3, and what the document says of literals and of records as texts."""

import unittest

from helper import ADVISE, EXAMPLE, EXAMPLE_ROW, FLUSH, HELD, NO_FORM, NO_ROOM, PAIRS, SNAP
from helper import ask, drop, last, merge, pair, put, schema
from sortedruns.rows import key_of, read_row
from sortedruns.schemas import columns_of, read_schema


class PutCase(unittest.TestCase):
    text = PAIRS

    def yes(self, row):
        self.assertEqual(last(schema(self.text, 0), put(row)), [1], row)

    def no(self, row):
        self.assertEqual(last(schema(self.text, 0), put(row)), NO_FORM, row)


class TestBits(PutCase):
    text = "{1k!b}"

    def test_literals(self):
        self.yes("{k:0}")
        self.yes("{k:1}")
        for literal in ("", "2", "00", "01", "10", "-0", "-1", '"0"', "a"):
            self.no("{k:%s}" % literal)


class TestWholeNumbers(PutCase):
    def test_form(self):
        self.text = "{1k!i8}"
        for literal in ("0", "1", "9", "10", "100", "-1", "-10"):
            self.yes("{k:%s}" % literal)
        for literal in ("", "-", "-0", "00", "01", "-01", "+1", "--1", "1-", "1a", "0x1", " 1", "1 ", "1.0", "/", ":"):
            self.no("{k:%s}" % literal)

    def test_range_of_each_size(self):
        for size in range(2, 65):
            self.text = "{1k!i%d}" % size
            most = 2 ** (size - 1) - 1
            self.yes("{k:%d}" % most)
            self.no("{k:%d}" % (most + 1))
            self.yes("{k:%d}" % (-most - 1))
            self.no("{k:%d}" % (-most - 2))

    def test_thousands_of_digits(self):
        self.text = "{1k!i64}"
        self.no("{k:%s}" % ("9" * 3900))
        self.no("{k:-%s}" % ("1" * 3900))
        self.no("{k:%s}" % ("0" * 3900))


class TestTexts(PutCase):
    text = "{1k!t2}"

    def test_length_counts_bytes_not_signs(self):
        for literal in ('""', '"a"', '"ab"', '"\\00\\ff"', '"a\\0a"'):
            self.yes("{k:%s}" % literal)
        for literal in ('"abc"', '"\\00\\01\\02"', '"ab\\00"'):
            self.no("{k:%s}" % literal)

    def test_longest(self):
        self.text = "{1k!t999}"
        self.yes('{k:"%s"}' % ("a" * 999))
        self.no('{k:"%s"}' % ("a" * 1000))
        self.yes('{k:"%s"}' % ("\\0a" * 999))
        self.no('{k:"%s"}' % ("\\0a" * 1000))

    def test_each_byte_has_one_form(self):
        for byte in range(256):
            plain = '{k:"%s"}' % chr(byte)
            escaped = '{k:"\\%02x"}' % byte
            if 32 <= byte <= 126 and chr(byte) not in '"\\':
                self.yes(plain)
                self.no(escaped)
            else:
                self.no(plain)
                self.yes(escaped)

    def test_base_sixteen(self):
        for escape in ("\\0A", "\\FF", "\\0g", "\\g0", "\\0", "\\", "\\ 0", "\\0:", "\\0`", "\\0/", "\\x0a", "\\n"):
            self.no('{k:"%s"}' % escape)

    def test_quotes(self):
        for literal in ("a", '"a', 'a"', "'a'", '"a""', '"a"b', '"'):
            self.no("{k:%s}" % literal)


class TestRecords(PutCase):
    text = "{1k!i8;2o?i8;3m*i8;4z!b}"

    def test_occurrences(self):
        for row in ("{k:1;z:0}", "{k:1;o:2;z:0}", "{k:1;m:2;z:0}", "{k:1;m:2,2,1;z:0}", "{k:1;o:2;m:3,4;z:0}"):
            self.yes(row)

    def test_just_one_is_just_one(self):
        for row in ("{k:1}", "{z:0}", "{}", "{k:1,2;z:0}", "{k:1;z:0,0}", "{k:;z:0}", "{k:1;z:}"):
            self.no(row)

    def test_none_is_not_named(self):
        for row in ("{k:1;o:;z:0}", "{k:1;m:;z:0}", "{k:1;o;z:0}"):
            self.no(row)

    def test_none_or_one(self):
        self.no("{k:1;o:2,3;z:0}")
        self.no("{k:1;o:2;o:3;z:0}")

    def test_order_of_the_schema(self):
        for row in ("{z:0;k:1}", "{k:1;m:1;o:1;z:0}", "{k:1;z:0;o:1}", "{k:1;k:1;z:0}", "{k:1;m:1;m:2;z:0}"):
            self.no(row)

    def test_names(self):
        for row in ("{K:1;z:0}", "{kk:1;z:0}", "{k:1;x:1;z:0}", "{1:1;z:0}", "{k1;z:0}", "{k:1;z:0;y:1}", "{:1;z:0}"):
            self.no(row)

    def test_names_that_begin_alike(self):
        self.text = "{1a!i8;2ab?i8;3abc!i8}"
        self.yes("{a:1;abc:2}")
        self.yes("{a:1;ab:3;abc:2}")
        self.no("{ab:1;abc:2}")
        self.no("{a:1;ab:2}")

    def test_signs(self):
        wrong = ("", "{", "}", "k:1;z:0", "{k:1;z:0", "k:1;z:0}", "{k:1,z:0}", "{k:1;;z:0}", "{;k:1;z:0}", "{k:1;z:0;}",
                 "{k=1;z:0}", "<k:1;z:0>", "{k:1;z:0}}", "{k:1;z:0} ", " {k:1;z:0}", "{k: 1;z:0}", "{k:1; z:0}",
                 "{k:1;m:1,;z:0}", "{k:1;m:,1;z:0}", "{k:1;m:1,,1;z:0}", "{k:1;m:1 ,1;z:0}", "{k:1;z:0}{k:1;z:0}",
                 "{k:1;z:0>", "{k:1;m:{1};z:0}", "{k:1z:0}")
        for row in wrong:
            self.no(row)


class TestGroups(PutCase):
    def test_record_without_occurrences(self):
        self.text = "{1k!b;2r!{1a?b;2b*b}}"
        self.yes("{k:0;r:{}}")
        self.yes("{k:0;r:{b:1}}")
        self.no("{k:0}")
        self.no("{k:0;r:}")

    def test_many_records(self):
        self.text = "{1k!b;2r*{1a?b}}"
        self.yes("{k:0;r:{},{a:1},{}}")
        self.no("{k:0;r:{};r:{}}")

    def test_choice_takes_just_one(self):
        self.text = "{1k!b;2c!<1x!b;2y!i8;3z!{1a!b}>}"
        for choice in ("<x:1>", "<y:-5>", "<z:{a:0}>"):
            self.yes("{k:0;c:%s}" % choice)
        for choice in ("", "<", "<>", "<x:1;y:1>", "<x:1,0>", "<x:2>", "<w:1>", "x:1", "{x:1}", "<x:1", "<x:1}", "<x:>", "<z:0>",
                       "<;x:1>", "<x:1;>", "<x:1>,<x:1>", "<y:-5>>", "<x>", "<1>"):
            self.no("{k:0;c:%s}" % choice)

    def test_many_choices(self):
        self.text = "{1k!b;2c*<1x!b;2y!i8>}"
        self.yes("{k:0;c:<y:1>,<x:1>,<y:1>}")
        self.yes("{k:0}")

    def test_nested_to_the_limit(self):
        self.text = "{1k!b;2g!" * 5 + "{1k!b}" + "}" * 5
        self.yes("{k:0;g:" * 5 + "{k:1}" + "}" * 5)
        self.no("{k:0;g:" * 5 + "{k:2}" + "}" * 5)
        self.no("{k:0;g:" * 4 + "{k:1}" + "}" * 4)
        self.no("{k:0;g:" * 6 + "{k:1}" + "}" * 6)

    def test_deep_texts_of_shallow_schemas(self):
        self.no("{k:" * 1300)
        self.no("{" * 4000)


class TestKeyedOccurrences(PutCase):
    def rows(self, kind, rising, others):
        self.text = "{1k!b;2m%%{1key!%s;2v?b}}" % kind
        self.yes("{k:0;m:%s}" % ",".join("{key:%s}" % literal for literal in rising))
        for pair_of_keys in others:
            self.no("{k:0;m:%s}" % ",".join("{key:%s}" % literal for literal in pair_of_keys))

    def test_none_and_one(self):
        self.text = "{1k!b;2m%{1key!i8;2v?b}}"
        self.yes("{k:0}")
        self.yes("{k:0;m:{key:5;v:1}}")
        self.no("{k:0;m:{v:1}}")
        self.no("{k:0;m:{key:1},{key:2},{key:2}}")

    def test_by_number(self):
        self.rows("b", ("0", "1"), (("1", "0"), ("0", "0"), ("1", "1")))
        self.rows("i8", ("-128", "-10", "-9", "0", "9", "10", "127"), (("10", "9"), ("-9", "-10"), ("5", "5"), ("0", "-1")))

    def test_by_the_first_byte_that_differs(self):
        rising = ('""', '"\\00"', '" "', '"A"', '"AZ"', '"B"', '"a"', '"a\\00"', '"aa"', '"ab"', '"b"', '"\\7f"', '"\\ff"')
        self.rows("t4", rising, [(later, earlier) for earlier, later in zip(rising, rising[1:])] + [(x, x) for x in rising])

    def test_escaped_bytes_stand_by_their_number(self):
        self.rows("t4", ('"!"', '"\\22"', '"#"', '"["', '"\\5c"', '"]"'), (('"\\22"', '"!"'), ('"]"', '"\\5c"')))


class TestDocumentExample(PutCase):
    text = EXAMPLE

    def test_example(self):
        self.yes(EXAMPLE_ROW)

    def test_near_the_example(self):
        for old, new in (('"a","b\\22"', '"a","b""'), ("x:-1;", ""), ("len:7", "len:128"), ("line:{len:7}", "dot:2"),
                         ('key:"b"', 'key:"a"'), ("id:5", "id:2147483648"), ('"a",', '"aaaaaaaaa",'), ("val:3", "val:")):
            self.assertIn(old, EXAMPLE_ROW)
            self.no(EXAMPLE_ROW.replace(old, new))
        for old, new in (("line:{len:7}", "dot:1"), ("pos:{x:-1;y:2};", ""), ("id:5", 'id:5;name:"n"')):
            self.assertIn(old, EXAMPLE_ROW)
            self.yes(EXAMPLE_ROW.replace(old, new))


class TestLength(PutCase):
    text = "{1k!b;2t*t999}"

    def of_length(self, length):
        full = '"%s"' % ("a" * 997)
        head = "{k:0;t:" + ",".join([full] * 3) + ","
        return head + '"%s"}' % ("a" * (length - len(head) - 3))

    def test_at_most_4000_bytes(self):
        self.assertEqual(len(self.of_length(4000)), 4000)
        self.yes(self.of_length(4000))
        self.no(self.of_length(4001))


class TestKey(unittest.TestCase):
    def test_values_in_the_order_told(self):
        record = read_schema(list(b"{1a!i8;2b!{1c!t4;2d!b}}"))
        columns = columns_of(record)
        row = read_row(list(b'{a:-5;b:{c:"x\\00";d:1}}'), record)
        self.assertEqual(key_of(row, [columns[2], columns[0]]), (1, -5))
        self.assertEqual(key_of(row, [columns[1]]), ((120, 0),))

    def test_key_columns_tell_rows_apart(self):
        rows = (put("{a:1;b:{c:1;d:1}}"), put("{a:1;b:{c:2;d:1}}"), put("{a:1;b:{c:2;d:2}}"), put("{a:2;b:{c:2;d:2}}"))
        for columns, keys in (((0,), 2), ((1,), 2), ((0, 1), 3), ((2, 0), 3), ((2, 1, 0), 4)):
            asked = ask(schema("{1a!i8;2b!{1c!i8;2d!i8}}", *columns), *rows, FLUSH, merge(0, 1), HELD)
            self.assertEqual(asked[-1], [0, keys], columns)


class TestEffect(unittest.TestCase):
    def test_entries_are_numbered_from_one(self):
        self.assertEqual(ask(schema(PAIRS, 0), pair(1), pair(2), drop("2"), pair(1), HELD)[1:], [[1], [2], [3], [4], [4, 4]])

    def test_numbers_go_on_after_merging(self):
        asked = ask(schema(PAIRS, 0), pair(1), pair(1), FLUSH, merge(0, 1), HELD, pair(1))
        self.assertEqual(asked[-2:], [[0, 1], [3]])

    def test_refused_takes_no_number(self):
        asked = ask(schema(PAIRS, 0), pair(1), put("{k:1}"), HELD, pair(1))
        self.assertEqual(asked[2:], [NO_FORM, [1, 1], [2]])

    def test_no_fresh_entry_behind_200(self):
        full = [schema(PAIRS, 0)] + [pair(1)] * 200
        asked = ask(*full, pair(2), HELD, SNAP, FLUSH)
        self.assertEqual(asked[200:], [[200], NO_ROOM, [200, 200], [0], [1]])

    def test_entries_of_runs_count_too(self):
        full = [schema(PAIRS, 0)] + [pair(1)] * 100 + [FLUSH] + [pair(1)] * 50 + [FLUSH] + [pair(1)] * 50
        asked = ask(*full, pair(2), HELD, ADVISE)
        self.assertEqual(asked[-4:], [[200], NO_ROOM, [50, 200], [0, 150]])

    def test_text_is_looked_at_before_room(self):
        full = [schema(PAIRS, 0)] + [pair(1)] * 200
        self.assertEqual(last(*full, put("{k:1}")), NO_FORM)

    def test_merging_makes_room(self):
        full = [schema(PAIRS, 0)] + [pair(1)] * 200
        asked = ask(*full, pair(2), FLUSH, merge(0, 1), pair(2), HELD)
        self.assertEqual(asked[201:], [NO_ROOM, [1], [1], [201], [1, 2]])
