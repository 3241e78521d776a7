"""Point 3, as far as rows, partings, sides and fours go."""

import itertools
import unittest

import things
from wovenway.fours import four
from wovenway.rows import how_many, is_parting, parting, sides


def asked_rows():
    yield from things.small_rows(6)
    yield from things.drawn_rows(3, 25, 7, 40)
    for row, given in things.long_woven_rows():
        yield row
    yield from things.long_bad_rows()


def told_below(row):
    return tuple(things.GREATEST - card for card in row)


class Whole(unittest.TestCase):
    def test_woven_just_where_no_four_bar(self):
        seen = set()
        for row in asked_rows():
            woven = four(row) is None
            self.assertEqual(how_many(row) > 0, woven, row)
            self.assertEqual(parting(row) is not None, woven, row)
            self.assertEqual(sides(row) is not None, woven, row)
            seen.add(woven)
        self.assertEqual(seen, {True, False})

    def test_of_four_that_bar_no_parting_is(self):
        for row in itertools.permutations((0, 5, 9, things.GREATEST)):
            if four(row) is not None:
                for given in itertools.product(("down", "up"), repeat=4):
                    self.assertFalse(is_parting(row, given))

    def test_any_two_partings_change_one_card_of_each_side(self):
        for row in things.small_rows(6):
            partings = [given for given in itertools.product(("down", "up"), repeat=len(row)) if is_parting(row, given)]
            self.assertEqual(how_many(row), len(partings))
            for one, other in itertools.combinations(partings, 2):
                moved = [side for side, later in zip(one, other) if side != later]
                self.assertLessEqual(moved.count("up"), 1)
                self.assertLessEqual(moved.count("down"), 1)

    def test_no_more_partings_than_one_more_than_cards(self):
        for row in asked_rows():
            self.assertLessEqual(how_many(row), len(row) + 1)
        for many in range(1, 41):
            self.assertEqual(how_many(tuple(range(many))), many + 1)

    def test_the_told_parting_is_one(self):
        for row in asked_rows():
            first = parting(row)
            if first is not None:
                self.assertTrue(is_parting(row, first))
                for side, sure in zip(first, sides(row)):
                    self.assertIn(sure, (side, "either"))

    def test_read_from_its_end(self):
        other = {"up": "down", "down": "up", "either": "either"}
        for row in asked_rows():
            back = row[::-1]
            self.assertEqual(how_many(back), how_many(row))
            self.assertEqual(four(back) is None, four(row) is None)
            if how_many(row):
                self.assertEqual(sides(back), tuple(other[side] for side in sides(row)[::-1]))
                self.assertTrue(is_parting(back, tuple(other[side] for side in parting(row)[::-1])))

    def test_told_below_a_great_number(self):
        other = {"up": "down", "down": "up", "either": "either"}
        for row in asked_rows():
            below = told_below(row)
            self.assertEqual(how_many(below), how_many(row))
            self.assertEqual(four(below), four(row))
            if how_many(row):
                self.assertEqual(sides(below), tuple(other[side] for side in sides(row)))
                self.assertTrue(is_parting(below, tuple(other[side] for side in parting(row))))

    def test_taken_out_of_a_woven_row(self):
        for row in things.small_rows(6):
            if how_many(row):
                for many in range(1, len(row)):
                    for left in itertools.combinations(row, many):
                        self.assertGreater(how_many(left), 0)
                        self.assertIsNone(four(left))
        for row, given in things.long_woven_rows():
            for step in (1, 2, 3, 7):
                for start in range(1, 5):
                    self.assertTrue(is_parting(row[start::step], given[start::step]))
                    self.assertGreater(how_many(row[start::step]), 0)
                    self.assertIsNone(four(row[start::step]))


if __name__ == "__main__":
    unittest.main()
