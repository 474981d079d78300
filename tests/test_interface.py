"""Promises 2 and 12, and what the interface says of lists that are handed in and given back."""

import unittest

from helper import ADVISE, EXAMPLE, EXAMPLE_ROW, FLUSH, HELD, NO_FORM, NO_SCHEMA, PAIRS, RUNS, SNAP
from helper import ask, close, drop, get, key_list, last, merge, pair, put, run, scan, schema
from sortedruns.table import Table, answers

EVERY_CALL = (
    pair(1), drop("1"), FLUSH, merge(0, 1), ADVISE, SNAP, close(0), get(-1, "1"),
    scan(-1, 5, key_list("1"), key_list("2")), RUNS, run(0), HELD,
)


def flat(*calls):
    return [number for call in calls for number in call]


class TestHeld(unittest.TestCase):
    def test_fresh_and_all(self):
        asked = ask(schema(PAIRS, 0), HELD, pair(1), HELD, drop("1"), HELD, FLUSH, HELD, pair(1), HELD)
        self.assertEqual(asked[1::2], [[0, 0], [1, 1], [2, 2], [0, 2], [1, 3]])

    def test_entries_of_all_runs(self):
        calls = [schema(PAIRS, 0)] + [pair(1), pair(2), FLUSH] * 5 + [pair(3), HELD]
        self.assertEqual(last(*calls), [1, 11])

    def test_full(self):
        calls = [schema(PAIRS, 0)] + [pair(1)] * 120 + [FLUSH] + [pair(1)] * 80 + [HELD]
        self.assertEqual(last(*calls), [80, 200])


class TestNoSchema(unittest.TestCase):
    def test_every_other_call_is_refused(self):
        for call in EVERY_CALL:
            self.assertEqual(ask(call), [NO_SCHEMA], call)
        self.assertEqual(ask(*EVERY_CALL), [NO_SCHEMA] * len(EVERY_CALL))

    def test_every_call_is_taken_whole(self):
        empty = ([1, 0], [2, 0], [8, 5, 0], [9, 5, 6, 0, 0], [9, 0, 0, 1, 3, 2, 3, 3])
        self.assertEqual(ask(*empty, *EVERY_CALL), [NO_SCHEMA] * (len(empty) + len(EVERY_CALL)))

    def test_looked_at_first(self):
        for call in (put("{"), drop("x"), merge(-1, 0), close(9), get(9, "x"), scan(9, -1, [], []), run(-1)):
            self.assertEqual(ask(call), [NO_SCHEMA], call)

    def test_a_refused_schema_is_none(self):
        self.assertEqual(ask(schema("{", 0), pair(1), HELD), [NO_FORM, NO_SCHEMA, NO_SCHEMA])

    def test_refused_calls_leave_no_trace(self):
        asked = ask(*EVERY_CALL, schema(PAIRS, 0), HELD, pair(1), SNAP)
        self.assertEqual(asked[-4:], [[0], [0, 0], [1], [0]])


class TestLists(unittest.TestCase):
    LINE = flat(
        schema(EXAMPLE, 0), put(EXAMPLE_ROW), drop("5"), put("{"), SNAP, FLUSH, put(EXAMPLE_ROW), drop("7"),
        FLUSH, ADVISE, get(-1, "5"), get(0, "7"), scan(-1, 9, key_list("5"), key_list("7")), RUNS, run(0), run(1),
        merge(0, 2), HELD, close(0), merge(0, 1), HELD, close(0), get(0, "5"), scan(-1, -1, [], []), run(7),
    )

    def test_answers_one_behind_another(self):
        given = answers(flat(schema(PAIRS, 0), pair(1), put("{"), FLUSH, ADVISE, pair(2), FLUSH, ADVISE, HELD))
        self.assertEqual(given, [1, 0, 1, 1, 1, -1, 1, 1, 1, -7, 1, 2, 1, 2, 2, 0, 2, 2, 0, 2])

    def test_one_call(self):
        self.assertEqual(answers([3]), [1, -2])
        self.assertEqual(answers([0, 0, 0]), [1, -1])

    def test_handed_in_list_stays_as_it_was(self):
        line = list(self.LINE)
        answers(line)
        self.assertEqual(line, self.LINE)

    def test_second_time_gives_the_same(self):
        first = answers(list(self.LINE))
        answers(flat(schema(PAIRS, 1), pair(1), SNAP, FLUSH))
        self.assertEqual(answers(list(self.LINE)), first)

    def test_nothing_is_kept_from_one_time_to_the_next(self):
        answers(flat(schema(PAIRS, 0), pair(1), FLUSH, SNAP))
        self.assertEqual(ask(HELD), [NO_SCHEMA])
        self.assertEqual(ask(schema(PAIRS, 0), HELD, SNAP, pair(1)), [[0], [0, 0], [0], [1]])

    def test_answer_is_a_list_of_its_own(self):
        first = answers(list(self.LINE))
        first.clear()
        self.assertNotEqual(answers(list(self.LINE)), [])

    def test_answers_are_whole_numbers(self):
        given = answers(list(self.LINE))
        self.assertIs(type(given), list)
        self.assertEqual({type(number) for number in given}, {int})

    def test_lists_at_their_greatest_length(self):
        asked = ask(schema("{" * 5000, *[0] * 50), schema(PAIRS, 0), put("{" * 5000), drop("1" * 9999))
        self.assertEqual(asked, [[-1], [0], [-1], [-8]])

    def test_keys_at_their_greatest_length(self):
        longest = [1] * 10000
        asked = ask(schema(PAIRS, 0), [8, -1, 10000] + longest)
        self.assertEqual(asked, [[0], [-8]])
        asked = ask(schema(PAIRS, 0), scan(-1, 0, [1] * 7500, [1] * 7500))
        self.assertEqual(asked, [[0], [-8]])

    def test_answers_of_millions_of_numbers(self):
        row = '{k:0;t:%s}' % ",".join(['"%s"' % ("a" * 990)] * 4)
        whole = scan(-1, 9, key_list("0"), key_list("1"))
        calls = [schema("{1k!b;2t*t999}", 0), put(row), put(row.replace("k:0", "k:1")), FLUSH] + [whole] * 390
        asked = ask(*calls)
        self.assertEqual(len(asked[-1]), 4 + 2 * len(row))
        self.assertEqual(asked[4:], [asked[-1]] * 390)

    def test_every_call_has_an_answer(self):
        for call in EVERY_CALL:
            for begun in ([schema(PAIRS, 0)], [schema(PAIRS, 0), pair(1), FLUSH, SNAP, pair(1)]):
                asked = ask(*begun, call, HELD)
                self.assertEqual(len(asked), len(begun) + 2, call)
                self.assertNotEqual(asked[-2], [], call)

    def test_what_is_answered_is_no_list_of_the_table(self):
        table = Table()
        table.schema(list(PAIRS.encode()), [0])
        table.put(list(b"{k:1;v:1}"))
        key = key_list("1")
        for ask_again in (lambda: table.get(-1, key), lambda: table.scan(-1, 9, key, key)):
            first = ask_again()
            first[-1] = 0
            self.assertEqual(ask_again()[-9:], list(b"{k:1;v:1}"))

    def test_400_calls(self):
        asked = ask(schema(PAIRS, 0), *[pair(1)] * 399)
        self.assertEqual(asked, [[0]] + [[number] for number in range(1, 201)] + [[-5]] * 199)
