"""Points 10 and 11: how many rows are woven, and hidden cards filled in."""

import functools
import itertools
import math
import random
import time
import unittest

import things
from wovenway.counted import filled, rows_of


def with_next(ends, card):
    """The ends of the sides of all partings, with the card that is so high among those not laid yet."""
    longer = []
    for up, down in ends:
        if card >= up:
            longer.append((card, down - (card < down)))
        if card < down:
            longer.append((up - (card < up), card))
    # An end that another one leaves more room than is not needed.
    return tuple(sorted(
        one for one in set(longer)
        if not any(other != one and other[0] <= one[0] and other[1] >= one[1] for other in longer)
    ))


@functools.lru_cache(None)
def ways_on(left, ends):
    """In how many ways the cards left can be laid: of a side's end it counts only how many of them are below."""
    if not ends:
        return 0
    if left == 0:
        return 1
    return sum(ways_on(left - 1, with_next(ends, card)) for card in range(left))


@functools.lru_cache(None)
def woven_rows(many):
    """All woven rows of the numbers from 1 on, rising."""
    return [row for row in itertools.permutations(range(1, many + 1)) if things.is_woven(row)]


def hidden_rows(many):
    """All hidden rows of so many things."""
    for seen in range(many + 1):
        for places in itertools.combinations(range(many), seen):
            for numbers in itertools.permutations(range(1, many + 1), seen):
                told = dict(zip(places, numbers))
                yield tuple(told.get(place) for place in range(many))


def filled_by(hidden):
    rows = [
        row for row in woven_rows(len(hidden))
        if all(told is None or told == number for told, number in zip(hidden, row))
    ]
    return len(rows), rows[0] if rows else None


class RowsOf(unittest.TestCase):
    def test_none_and_few(self):
        told = [rows_of(many) for many in range(9)]
        self.assertEqual(told, [1, 1, 2, 6, 22, 86, 340, 1340, 5254])

    def test_all_rows_written_out(self):
        for many in range(8):
            things.same_kind(self, rows_of(many), len(woven_rows(many)))

    def test_laid_one_by_one(self):
        for many in range(21):
            self.assertEqual(rows_of(many), ways_on(many, ((0, many),)))

    def test_from_0_to_60(self):
        for many in range(61):
            self.assertIs(type(rows_of(many)), int)
            parted = sum(2 ** (many - less - 1) * math.comb(2 * less, less) for less in range(many))
            self.assertEqual(rows_of(many), math.comb(2 * many, many) - parted)
            if many > 0:
                step = math.comb(2 * many, many) - 3 * math.comb(2 * many - 2, many - 1)
                self.assertEqual(rows_of(many) - 2 * rows_of(many - 1), step)

    def test_asked_again(self):
        for many in (60, 0, 7, 60):
            self.assertEqual(rows_of(many), rows_of(many))


class Filled(unittest.TestCase):
    def told(self, hidden):
        wanted = filled_by(hidden)
        answer = things.unchanged(self, filled, hidden)
        things.same_kind(self, answer, wanted)
        things.same_kind(self, answer[0], wanted[0])
        things.same_kind(self, answer[1], wanted[1])

    def test_by_hand(self):
        self.assertEqual(filled((None,)), (1, (1,)))
        self.assertEqual(filled((1,)), (1, (1,)))
        self.assertEqual(filled((None, 1)), (1, (2, 1)))
        self.assertEqual(filled((2, 1, 4, 3)), (0, None))
        self.assertEqual(filled((2, 1, None, None)), (1, (2, 1, 3, 4)))
        self.assertEqual(filled((2, 1, 4, None)), (0, None))
        self.assertEqual(filled((None, None, None, None)), (22, (1, 2, 3, 4)))
        self.assertEqual(filled((4, None, None, None)), (6, (4, 1, 2, 3)))

    def test_all_hidden_rows_of_up_to_five(self):
        for many in range(1, 6):
            for hidden in hidden_rows(many):
                self.told(hidden)

    def test_hidden_rows_of_six(self):
        for hidden in hidden_rows(6):
            self.told(hidden)

    def test_some_of_seven(self):
        chance = random.Random(11)
        for _ in range(150):
            row = chance.sample(range(1, 8), 7)
            hidden = chance.sample(range(7), chance.randint(0, 7))
            self.told(tuple(None if place in hidden else number for place, number in enumerate(row)))

    def test_all_hidden(self):
        for many in range(1, 8):
            self.assertEqual(filled((None,) * many), (rows_of(many), tuple(range(1, many + 1))))

    def test_none_hidden(self):
        for many in range(1, 7):
            for row in itertools.permutations(range(1, many + 1)):
                self.assertEqual(filled(row), (1, row) if things.is_woven(row) else (0, None))

    def test_asked_again_and_promptly(self):
        began = time.monotonic()
        for _ in range(10):
            self.assertEqual(filled((None,) * 7), (1340, (1, 2, 3, 4, 5, 6, 7)))
        self.assertLess(time.monotonic() - began, 20)


if __name__ == "__main__":
    unittest.main()
