"""Point 6: four cards that bar a row."""

import itertools
import time
import unittest

import things
from wovenway.fours import bars, four


class Four(unittest.TestCase):
    def told(self, row):
        fours = things.fours_of(row)
        things.same_kind(self, things.unchanged(self, four, row), fours[0] if fours else None)

    def test_by_hand(self):
        self.assertEqual(four((2, 1, 4, 3)), (0, 1, 2, 3))
        self.assertEqual(four((3, 4, 1, 2)), (0, 1, 2, 3))
        self.assertEqual(four((1, 3, 2, 5, 4)), (1, 2, 3, 4))
        self.assertEqual(four((2, 1, 4, 3, 0)), (0, 1, 2, 3))
        self.assertEqual(four((2, 5, 1, 4, 3)), (0, 2, 3, 4))
        self.assertIsNone(four((1, 2, 3, 4)))
        self.assertIsNone(four((4, 3, 2, 1)))

    def test_too_few_cards(self):
        for row in ((7,), (7, 3), (3, 7), (3, 1, 2), (2, 3, 1)):
            self.assertIsNone(four(row))

    def test_just_two_ways_to_bar(self):
        barred = [row for row in itertools.permutations((1, 2, 3, 4)) if four(row) is not None]
        self.assertEqual(barred, [(2, 1, 4, 3), (3, 4, 1, 2)])

    def test_all_small_rows(self):
        for row in things.small_rows(7):
            self.told(row)

    def test_drawn_rows(self):
        for row in things.drawn_rows(6, 30, 8, 16):
            self.told(row)

    def test_rows_of_40_cards(self):
        for row, given in list(things.long_woven_rows())[:6]:
            self.assertEqual(things.fours_of(row), [])
            self.assertIsNone(four(row))
        for row in things.long_bad_rows():
            self.told(row)

    def test_the_last_four_of_40_cards(self):
        self.assertEqual(four(tuple(range(36)) + (37, 36, 39, 38)), (36, 37, 38, 39))
        self.assertEqual(four(tuple(range(40, 4, -1)) + (2, 3, 0, 1)), (36, 37, 38, 39))

    def test_long_rows_are_answered_promptly(self):
        rows = [row for row, given in things.long_woven_rows()] + list(things.long_bad_rows())
        began = time.monotonic()
        for row in rows * 5:
            four(row)
        self.assertLess(time.monotonic() - began, 20)

    def test_asked_again(self):
        for row in ((3, 1, 2), (2, 1, 4, 3), things.outward(40)[0]):
            self.assertEqual(four(row), four(row))


class Bars(unittest.TestCase):
    def told(self, row, thing, wanted):
        things.same_kind(self, things.unchanged(self, bars, row, thing), wanted)

    def test_by_hand(self):
        self.told((2, 1, 4, 3), (0, 1, 2, 3), True)
        self.told((3, 4, 1, 2), (0, 1, 2, 3), True)
        self.told((1, 3, 2, 5, 4), (1, 2, 3, 4), True)
        self.told((1, 3, 2, 5, 4), (0, 1, 2, 3), False)

    def test_all_small_rows(self):
        for row in things.small_rows(6):
            barring = set(things.fours_of(row))
            for places in itertools.combinations(range(len(row)), 4):
                self.told(row, places, places in barring)

    def test_rows_of_40_cards(self):
        for row in things.long_bad_rows():
            for places in itertools.islice(itertools.combinations(range(40), 4), 0, None, 37):
                self.told(row, places, things.do_bar(row, places))
        row = tuple(range(36)) + (37, 36, 39, 38)
        self.told(row, (36, 37, 38, 39), True)
        self.told(row, (35, 37, 38, 39), False)

    def test_a_list(self):
        self.told((2, 1, 4, 3), [0, 1, 2, 3], False)
        self.told((2, 1, 4, 3), ([0, 1, 2, 3],), False)
        self.told((2, 1, 4, 3), ((0, 1, 2, 3),), False)

    def test_places_out_of_order(self):
        for places in itertools.permutations(range(4)):
            self.told((2, 1, 4, 3), places, places == (0, 1, 2, 3))
            self.told((3, 4, 1, 2), places, places == (0, 1, 2, 3))
        self.told((2, 1, 4, 3), (0, 0, 2, 3), False)
        self.told((2, 1, 4, 3), (0, 1, 2, 2), False)

    def test_places_that_are_no_cards(self):
        row = (2, 1, 4, 3)
        for thing in ((1, 2, 3, 4), (-1, 0, 1, 2), (-4, -3, -2, -1), (0, 1, 2, 4), (0, 1, 2, 40), (0, 1, 2, 10 ** 39)):
            self.told(row, thing, False)
        # From the end on, these would be four that bar.
        self.told((9, 2, 1, 4, 3), (-4, 2, 3, 4), False)
        self.told((2, 1, 4, 3), (0, 1, 2, -1), False)

    def test_truths_for_places(self):
        row = (2, 1, 4, 3)
        for thing in ((False, 1, 2, 3), (0, True, 2, 3), (False, True, 2, 3)):
            self.told(row, thing, False)

    def test_too_few_and_too_many(self):
        row = (2, 1, 4, 3, 5)
        self.told(row, (0, 1, 2, 3), True)
        for thing in ((), (0,), (0, 1), (0, 1, 2), (1, 2, 3), (0, 1, 2, 3, 4), (0, 1, 2, 3, 3)):
            self.told(row, thing, False)
        self.told((2, 1), (0, 1), False)

    def test_things_of_all_kinds(self):
        for row in ((5,), (2, 1, 4, 3), tuple(range(40))):
            for thing in things.THINGS:
                self.told(row, thing, False)
                for at in range(4):
                    places = [0, 1, 2, 3]
                    places[at] = thing
                    right = row == (2, 1, 4, 3) and thing in (0, 1) and thing == at and not isinstance(thing, bool)
                    self.told(row, tuple(places), right)


if __name__ == "__main__":
    unittest.main()
