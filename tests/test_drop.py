"""Promise 4, and what the document says of keys."""

import unittest

from helper import FLUSH, HELD, NO_KEY, NO_ROOM, PAIRS
from helper import ask, drop, drop_list, key_list, last, merge, pair, put, schema

THREE = "{1a!i8;2b!t3;3c!b;4d!i64}"


class TestKeys(unittest.TestCase):
    text = PAIRS
    columns = (0,)

    def yes(self, numbers):
        self.assertEqual(last(schema(self.text, *self.columns), drop_list(numbers)), [1], numbers)

    def no(self, numbers):
        self.assertEqual(last(schema(self.text, *self.columns), drop_list(numbers)), NO_KEY, numbers)

    def test_literals_of_the_kind(self):
        for literal in ("0", "-128", "127", "-1"):
            self.yes(key_list(literal))
        for literal in ("", "128", "-129", "-0", "01", "+1", "a", '"1"', "1 ", " 1", "1;", "-"):
            self.no(key_list(literal))

    def test_texts(self):
        self.text = "{1k!t3}"
        for literal in ('""', '"abc"', '"\\00\\22\\5c"'):
            self.yes(key_list(literal))
        for literal in ('"abcd"', "abc", '"abc', '"\\41"', '"\x80"', '"a"b', '"\\0A"', '"a"b"'):
            self.no(key_list(literal))

    def test_longest_text(self):
        self.text = "{1a!t999;2b!t999;3c!t999}"
        self.columns = (0, 1, 2)
        longest = '"%s"' % ("\\00" * 999)
        self.yes(key_list(longest, longest, longest))
        self.no(key_list(longest, longest, longest[:-1] + '\\00"'))

    def test_bits(self):
        self.text = "{1k!b}"
        self.yes(key_list("0"))
        self.yes(key_list("1"))
        for literal in ("2", "-1", "00", ""):
            self.no(key_list(literal))

    def test_thousands_of_digits(self):
        self.text = "{1k!i64}"
        self.no(key_list("9" * 9000))
        self.yes(key_list(str(-2 ** 63)))
        self.no(key_list(str(-2 ** 63 - 1)))
        self.yes(key_list(str(2 ** 63 - 1)))
        self.no(key_list(str(2 ** 63)))

    def test_each_told_whole(self):
        self.no([])
        self.no([0])
        self.no([1])
        self.no([2, 49])
        self.no([3, 49, 50])
        self.yes([2, 49, 50])
        self.no([1, 49, 50])
        self.no([-1])
        self.no([-1, 49])
        self.no([10 ** 18, 49])
        self.no([-10 ** 18, 49])
        self.no([49])

    def test_each_of_several_told_whole(self):
        self.text = THREE
        self.columns = (0, 2)
        self.yes([1, 49, 1, 48])
        for numbers in ([1, 49, 1], [1, 49, 2, 48], [4, 49, 1, 48], [5, 49, 1, 48], [2, 49, 1, 48], [3, 49, 1, 48],
                        [0, 1, 48], [1, 49, 0], [1, 49, -1], [1, 49, -2], [-1, 1, 49, 1, 48], [5, 49], [4, 49], [3, 49], [2, 49],
                        [10 ** 18, 49, 1, 48], [1, 49, 10 ** 18, 48], [1, 49, -10 ** 18, 48]):
            self.no(numbers)

    def test_nothing_behind(self):
        self.yes([1, 49])
        self.no([1, 49, 0])
        self.no([1, 49, 1, 49])
        self.no([1, 49, -1])

    def test_numbers_that_are_no_bytes(self):
        for number in (-1, 256, 256 + 49, 49 - 256, 10 ** 18, -10 ** 18):
            self.no([1, number])
            self.no([2, 49, number])
        self.text = "{1k!t3}"
        for number in (-1, 256, 256 + 97, 10 ** 18, -10 ** 18):
            self.no([3, 34, number, 34])
            self.no([5, 34, 92, 48, number, 34])
            self.no([4, 34, 97, 34, number])

    def test_several_columns_in_the_order_told(self):
        self.text = THREE
        self.columns = (1, 0)
        self.yes(key_list('"x"', "5"))
        for literals in (("5", '"x"'), ('"x"',), ("5",), ('"x"', "5", "1"), ('"x"', "500"), ('"xxxx"', "5"), ('"x"', "")):
            self.no(key_list(*literals))
        self.columns = (3, 2, 1)
        self.yes(key_list("-7", "1", '""'))
        self.no(key_list("-7", '""', "1"))
        self.no(key_list("-7", "1"))


class TestEffect(unittest.TestCase):
    def test_makes_a_fresh_entry_whether_the_key_was_there_or_not(self):
        asked = ask(schema(PAIRS, 0), drop("1"), pair(2), drop("2"), drop("2"), HELD)
        self.assertEqual(asked[1:], [[1], [2], [3], [4], [4, 4]])

    def test_hides_the_row_of_its_key_alone(self):
        asked = ask(schema(PAIRS, 0), pair(1), pair(2), drop("1"), FLUSH, merge(0, 1), HELD)
        self.assertEqual(asked[-1], [0, 1])

    def test_key_is_the_one_of_the_row(self):
        for columns, key in (((0, 1), ("1", '"x"')), ((1, 0), ('"x"', "1")), ((2,), ("0",)), ((3, 1, 0), ("9", '"x"', "1"))):
            asked = ask(schema(THREE, *columns), put('{a:1;b:"x";c:0;d:9}'), drop(*key), FLUSH, merge(0, 1), HELD)
            self.assertEqual(asked[-2:], [[0], [0, 0]], columns)

    def test_other_keys_stay(self):
        asked = ask(schema(THREE, 1), put('{a:1;b:"x";c:0;d:9}'), drop('"x\\00"'), FLUSH, merge(0, 1), HELD)
        self.assertEqual(asked[-2:], [[1], [0, 1]])

    def test_refused_leaves_all_as_it_was(self):
        asked = ask(schema(PAIRS, 0), pair(1), drop("128"), HELD, drop("1"))
        self.assertEqual(asked[2:], [NO_KEY, [1, 1], [2]])

    def test_200_entries(self):
        full = [schema(PAIRS, 0)] + [pair(1)] * 199
        asked = ask(*full, drop("1"), drop("1"), drop("128"), HELD)
        self.assertEqual(asked[200:], [[200], NO_ROOM, NO_KEY, [200, 200]])
