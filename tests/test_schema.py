"""Promise 1, and what the document says of schemas, literals in them and columns."""

import unittest

from helper import EXAMPLE, EXAMPLE_ROW, FLUSH, HELD, NO_COLUMNS, NO_FORM, NO_RUNS, NO_SNAPSHOT
from helper import PAIRS, SNAP, ADVISE, ask, close, drop, last, pair, put, schema
from sortedruns.schemas import columns_of, read_schema


class SchemaCase(unittest.TestCase):
    def yes(self, text, *columns):
        self.assertEqual(last(schema(text, *(columns or (0,)))), [0], text)

    def no(self, text):
        self.assertEqual(last(schema(text, 0)), NO_FORM, text)


def record(count, start=1):
    return "{" + ";".join("%df%d!b" % (n, n) for n in range(start, start + count)) + "}"


def nested(depth):
    return "{1k!b;2g!" * (depth - 1) + "{1k!b}" + "}" * (depth - 1)


class TestForm(SchemaCase):
    def test_examples_of_the_document(self):
        self.yes(EXAMPLE)
        self.yes(PAIRS)

    def test_every_kind_and_mode(self):
        for kind in ("b", "i8", "t8", "{1a!b}", "{1a?b}", "<1a!b>", "<1a!b;2b!{1c*t1}>"):
            for mode in "!?*":
                self.yes("{1k!b;2x%s%s}" % (mode, kind))

    def test_not_a_record(self):
        for text in ("", "{", "}", "{}", "<1a!b>", "b", "1a!b", "{1a!b", "1a!b}", "{1a!b>", "{1a!b}}", "{1a!b}{1a!b}"):
            self.no(text)

    def test_signs_between_fields(self):
        self.yes("{1a!b;2b!b}")
        for text in ("{1a!b,2b!b}", "{1a!b;}", "{;1a!b}", "{1a!b;;2b!b}", "{1a!b2b!b}"):
            self.no(text)

    def test_no_blanks(self):
        for text in (" {1a!b}", "{1a!b} ", "{ 1a!b}", "{1 a!b}", "{1a !b}", "{1a! b}", "{1a!b =0}", "{1a!b\n}"):
            self.no(text)

    def test_parts_left_out_or_out_of_order(self):
        for text in ("{a!b}", "{1!b}", "{1ab}", "{1a!}", "{1a}", "{1}", "{a1!b}", "{1!ab}", "{1ab!}", "{1a!b!}"):
            self.no(text)

    def test_groups_end_as_they_begin(self):
        self.yes("{1k!b;2g!<1a!b>}")
        for text in ("{1k!b;2g!<1a!b}}", "{1k!b;2g!{1a!b>}", "{1k!b;2g!<1a!b}>", "{1k!b;2g!{}}", "{1k!b;2g!<>}"):
            self.no(text)

    def test_bytes_beyond_ascii(self):
        self.no("{1a\xe9!b}")
        self.no("\xff")
        self.no("{1a!b}\x00")


class TestLength(SchemaCase):
    def of_length(self, length):
        escaped = "\\00" * 500
        head = '{1k!t999="' + escaped
        return head + "a" * (length - len(head) - 2) + '"}'

    def test_at_most_2000_bytes(self):
        self.assertEqual(len(self.of_length(2000)), 2000)
        self.yes(self.of_length(2000))
        self.no(self.of_length(2001))


class TestNumber(SchemaCase):
    def test_range(self):
        self.yes("{1a!b}")
        self.yes("{999a!b}")
        for number in ("0", "1000", "9990", "-1", "+1", ""):
            self.no("{%sa!b}" % number)

    def test_no_zero_in_front(self):
        for number in ("01", "00", "001", "0999"):
            self.no("{%sa!b}" % number)

    def test_numbers_rise(self):
        self.yes("{1a!b;3b!b;999c!b}")
        self.yes("{9a!b;10b!b}")
        self.no("{1a!b;1b!b}")
        self.no("{2a!b;1b!b}")
        self.no("{1a!b;3b!b;2c!b}")
        self.no("{1k!b;2g!<2a!b;1b!b>}")
        self.no("{1k!b;2g?{1a!b;1b!b}}")

    def test_each_group_counts_for_itself(self):
        self.yes("{5k!b;6g!{1a!b;2b!b};7h!<1a!b>}")


class TestName(SchemaCase):
    def test_length(self):
        self.yes("{1abcdefghijkl!b}")
        self.no("{1abcdefghijklm!b}")
        self.no("{1!b}")

    def test_signs(self):
        for name in ("a", "z", "a_", "a0", "z9", "a_0_z"):
            self.yes("{1%s!b}" % name)
        for name in ("_a", "A", "aB", "a-b", "a.b", "a`", "a{", "`", "a/", "a:", "\xe9"):
            self.no("{1%s!b}" % name)

    def test_names_differ_within_a_group(self):
        self.no("{1a!b;2a!b}")
        self.no("{1a!b;2b!b;3a?{1x!b}}")
        self.no("{1k!b;2g!<1a!b;2a!i8>}")
        self.yes("{1a!b;2b!b}")
        self.yes("{1a!b;2g!{1a!b;2g!<1a!b>}}")
        self.yes("{1a!b;2aa!b;3ab!b}")


class TestMode(SchemaCase):
    def test_unknown(self):
        for mode in ("", "+", "#", "!!", "&", "$", '"', ">", "@", ")"):
            self.no("{1a%sb}" % mode)

    def test_choice_takes_just_one_alone(self):
        self.yes("{1k!b;2g!<1a!b>}")
        self.no("{1k!b;2g!<1a?b>}")
        self.no("{1k!b;2g!<1a*b>}")
        self.no("{1k!b;2g!<1a%{1k!b}>}")
        self.no("{1k!b;2g!<1a!b;2b?b>}")
        self.yes("{1k!b;2g!<1a!{1x?b;2y*b;3z%{1k!b}}>}")

    def test_by_key_wants_a_record_with_a_sure_leaf_first(self):
        for kind in ("{1k!b}", "{1k!i8}", "{1k!t8}", "{1k!t8;2v*{1x!b}}", "{7k!b=1;8v?b}"):
            self.yes("{1k!b;2m%" + kind + "}")
        wrong = ("b", "i8", "t8", "<1k!b>", "{1k?b}", "{1k*b}", "{1k!{1x!b}}", "{1k!<1x!b>}", "{1k?b;2v!b}", "{1k%{1x!b}}")
        for kind in wrong:
            self.no("{1k!b;2m%" + kind + "}")


class TestKind(SchemaCase):
    def test_unknown(self):
        for kind in ("", "c", "B", "I8", "T8", "8", "b1", "x8", "f8", "(1a!b)", "bb"):
            self.no("{1a!%s}" % kind)

    def test_whole_numbers(self):
        for size in ("2", "9", "10", "64"):
            self.yes("{1a!i%s}" % size)
        for size in ("", "0", "1", "65", "100", "02", "064", "-2", "2a"):
            self.no("{1a!i%s}" % size)

    def test_texts(self):
        for size in ("1", "9", "10", "999"):
            self.yes("{1a!t%s}" % size)
        for size in ("", "0", "1000", "01", "099", "-1", "9990"):
            self.no("{1a!t%s}" % size)


class TestDefault(SchemaCase):
    def test_of_each_kind(self):
        for leaf in ("b=0", "b=1", "i8=0", "i8=-128", "i8=127", 't3=""', 't3="abc"', 't1="\\22"', 't9=";}{=<>!"'):
            self.yes("{1a!%s}" % leaf)
            self.yes("{1a!%s;2b!b}" % leaf)

    def test_not_a_literal(self):
        wrong = ("b=", "b=2", "b=00", "b=-0", "b=-1", 'b="0"', "i8=", "i8=128", "i8=-129", "i8=-0", "i8=01", "i8=-",
                 "i8=+1", 'i8="1"', "t3=", "t3=abc", 't3="abcd"', 't3="', 't3="ab', 't1="\\41"', 't1="\\2"', "b=0=0")
        for leaf in wrong:
            self.no("{1a!%s}" % leaf)

    def test_only_where_just_one_leaf_is_in_a_record(self):
        for mode in "?*%":
            self.no("{1k!b;2a%sb=0}" % mode)
        self.no("{1k!b;2g!<1a!b=0>}")
        self.no("{1k!b;2g!{1a!b}=0}")
        self.no("{1k!b;2g!{1a!b}={a:0}}")
        self.no("{1k!b;2g!<1a!b>=0}")
        self.yes("{1k!b;2g?{1a!b=0}}")
        self.yes("{1k!b;2g!<1r!{1a!b=0}>}")

    def test_does_not_stand_in_for_an_occurrence(self):
        text = "{1k!i8;2v!i8=5}"
        self.assertEqual(last(schema(text, 0), put("{k:1}")), NO_FORM)
        self.assertEqual(last(schema(text, 0), put("{k:1;v:5}")), [1])


class TestLimits(SchemaCase):
    def test_groups_at_most_six_deep(self):
        self.yes(nested(6))
        self.no(nested(7))
        self.no("{1k!b;2g!" * 200 + "{1k!b}" + "}" * 200)

    def test_choices_count_for_the_depth(self):
        within = "{1k!b;2g?<1a!{1g*<1a!{1g?<1a!b>}>}>}"
        self.yes(within)
        self.no(within.replace("<1a!b>", "<1a!{1x!b}>"))
        self.no(within.replace("<1a!b>", "<1a!<1x!b>>"))

    def test_side_by_side_is_not_deep(self):
        self.yes("{1k!b;%s}" % ";".join("%dg%d!{1a!b}" % (n, n) for n in range(2, 30)))

    def test_at_most_40_leaves(self):
        self.yes(record(40))
        self.no(record(41))
        self.yes("{1k!b;2g?%s;3h*<1a!b;2c!b>;4l!b}" % record(36))
        self.no("{1k!b;2g?%s;3h*<1a!b;2c!b>;4l!b}" % record(37))


class TestColumns(SchemaCase):
    def refused(self, text, *columns):
        self.assertEqual(last(schema(text, *columns)), NO_COLUMNS, columns)

    def test_leaves_in_the_order_of_the_text(self):
        columns = columns_of(read_schema(list(EXAMPLE.encode())))
        names = [".".join(bytes(name).decode() for name in column.path) for column in columns]
        self.assertEqual(names, ["id", "name", "tags", "pos.x", "pos.y", "shape.dot", "shape.line.len",
                                 "attr.key", "attr.val"])
        self.assertEqual([column.sure for column in columns], [True] + [False] * 8)

    def test_one_to_three(self):
        self.refused(record(5))
        self.yes(record(5), 4)
        self.yes(record(5), 4, 0)
        self.yes(record(5), 4, 0, 2)
        self.refused(record(5), 0, 1, 2, 3)
        self.refused(record(40), *range(40))
        self.refused(record(5), *([0] * 50))

    def test_there(self):
        self.refused(record(5), -1)
        self.refused(record(5), 5)
        self.refused(record(5), 0, 5)
        self.refused(record(5), 10 ** 18)
        self.refused(record(5), -10 ** 18)
        self.yes(record(40), 39)
        self.refused(record(40), 40)

    def test_none_twice(self):
        self.refused(record(5), 0, 0)
        self.refused(record(5), 1, 0, 1)

    def test_sure(self):
        self.yes(EXAMPLE, 0)
        for column in range(1, 9):
            self.refused(EXAMPLE, column)
            self.refused(EXAMPLE, 0, column)

    def test_sure_within_records(self):
        text = "{1a!{1b!{1x!i8};2o?{1y!i8}};2z!t4;3g!<1r!{1w!b}>}"
        self.yes(text, 0)
        self.yes(text, 2, 0)
        self.refused(text, 1)
        self.refused(text, 3)

    def test_key_of_a_keyed_field_is_not_sure(self):
        self.refused("{1k!b;2m%{1x!b}}", 1)


class TestEffect(unittest.TestCase):
    WRITTEN = (schema(PAIRS, 0), pair(1), FLUSH, pair(2), FLUSH, SNAP, SNAP, pair(3))

    def test_text_is_looked_at_before_columns(self):
        self.assertEqual(last(schema("{", 7)), NO_FORM)
        self.assertEqual(last(schema("{")), NO_FORM)

    def test_begins_anew(self):
        begun = self.WRITTEN + (schema(PAIRS, 0),)
        self.assertEqual(last(*begun), [0])
        self.assertEqual(last(*begun, HELD), [0, 0])
        self.assertEqual(last(*begun, FLUSH), [0])
        self.assertEqual(last(*begun, ADVISE), NO_RUNS)
        self.assertEqual(last(*begun, close(0)), NO_SNAPSHOT)
        self.assertEqual(last(*begun, pair(1)), [1])
        self.assertEqual(last(*begun, SNAP), [0])

    def test_new_schema_and_columns_hold(self):
        begun = (schema(PAIRS, 0), schema("{1id!t3;2n!i8}", 1))
        self.assertEqual(last(*begun, pair(1)), NO_FORM)
        self.assertEqual(last(*begun, put('{id:"a";n:5}')), [1])
        self.assertEqual(last(*begun, drop("5")), [1])
        self.assertEqual(last(*begun, drop('"a"')), [-8])

    def test_refused_leaves_all_as_it_was(self):
        for refused in (schema("{1k!i8;2v!i8", 0), schema("{1other!b}", 1), schema("{1other!b}")):
            after = self.WRITTEN + (refused,)
            self.assertEqual(last(*after, HELD), [1, 3])
            self.assertEqual(last(*after, ADVISE), [0, 2])
            self.assertEqual(last(*after, pair(4)), [4])
            self.assertEqual(last(*after, SNAP), [2])
            self.assertEqual(last(*after, close(1)), [0])

    def test_refused_first_schema_is_none(self):
        for refused in (schema("{", 0), schema(PAIRS, 2)):
            self.assertEqual(last(refused, pair(1)), [-2])

    def test_example_row(self):
        self.assertEqual(ask(schema(EXAMPLE, 0), put(EXAMPLE_ROW)), [[0], [1]])
