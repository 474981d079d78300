"""Promise 8: snap and close."""

import unittest

from helper import FLUSH, HELD, NO_ROOM, NO_SNAPSHOT, PAIRS, SNAP, ask, close, last, merge, pair, schema

BEGIN = schema(PAIRS, 0)


class TestSnap(unittest.TestCase):
    def test_numbered_from_zero(self):
        self.assertEqual(ask(BEGIN, SNAP, SNAP, SNAP)[1:], [[0], [1], [2]])

    def test_at_most_eight_open(self):
        asked = ask(BEGIN, *[SNAP] * 10)
        self.assertEqual(asked[1:], [[number] for number in range(8)] + [NO_ROOM, NO_ROOM])

    def test_closing_makes_room_and_refusals_take_no_number(self):
        asked = ask(BEGIN, *[SNAP] * 9, close(3), SNAP, SNAP)
        self.assertEqual(asked[9:], [NO_ROOM, [0], [8], NO_ROOM])

    def test_a_number_is_never_given_twice(self):
        asked = ask(BEGIN, SNAP, close(0), SNAP, close(1), SNAP, SNAP, close(3), SNAP)
        self.assertEqual(asked[1:], [[0], [0], [1], [0], [2], [3], [0], [4]])

    def test_refused_leaves_the_open_ones(self):
        calls = [BEGIN, pair(1), SNAP, pair(1)] + [SNAP] * 8 + [FLUSH, merge(0, 1), HELD]
        self.assertEqual(last(*calls), [0, 2])

    def test_makes_no_entry(self):
        self.assertEqual(ask(BEGIN, pair(1), SNAP, pair(1), HELD)[-2:], [[2], [2, 2]])


class TestClose(unittest.TestCase):
    def test_not_open(self):
        for number in (-1, 0, 1, 10 ** 18, -10 ** 18):
            self.assertEqual(last(BEGIN, close(number)), NO_SNAPSHOT)
        for number in (-1, 2, 10 ** 18):
            self.assertEqual(last(BEGIN, SNAP, SNAP, close(number)), NO_SNAPSHOT)

    def test_closed_once(self):
        asked = ask(BEGIN, SNAP, SNAP, close(0), close(0), close(1), close(1))
        self.assertEqual(asked[3:], [[0], NO_SNAPSHOT, [0], NO_SNAPSHOT])

    def test_closes_its_own_alone(self):
        calls = (BEGIN, pair(1), SNAP, pair(1), SNAP, pair(1), SNAP, pair(1), FLUSH)
        self.assertEqual(last(*calls, close(1), merge(0, 1), HELD), [0, 3])
        self.assertEqual(ask(*calls, close(1), close(0), close(2))[-2:], [[0], [0]])

    def test_refused_leaves_all_as_it_was(self):
        calls = (BEGIN, pair(1), SNAP, pair(1), FLUSH, close(1), merge(0, 1), HELD, SNAP)
        self.assertEqual(ask(*calls)[5:], [NO_SNAPSHOT, [1], [0, 2], [1]])
