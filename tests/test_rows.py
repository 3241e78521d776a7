"""Points 4 and 5: rows, partings, how many there are, and sides."""

import itertools
import time
import unittest

import things
from wovenway.rows import how_many, is_parting, is_row, parting, sides

GREATEST = things.GREATEST


class IsRow(unittest.TestCase):
    def told(self, thing, wanted):
        things.same_kind(self, things.unchanged(self, is_row, thing), wanted)

    def test_ordinary(self):
        for row in ((5,), (3, 1, 2), (1, 2, 3, 4), (900, 17, 20000, 4, 5)):
            self.told(row, True)

    def test_how_many_cards(self):
        self.told((0,), True)
        self.told(tuple(range(39)), True)
        self.told(tuple(range(40)), True)
        self.told((), False)
        self.told(tuple(range(41)), False)
        self.told(tuple(range(50)), False)

    def test_ends_of_the_numbers(self):
        for row in ((0,), (GREATEST,), (0, GREATEST), (GREATEST, 5, 0)):
            self.told(row, True)
        for thing in ((-1,), (GREATEST + 1,), (0, -1), (GREATEST, GREATEST + 1), (3, 10 ** 40 - 1)):
            self.told(thing, False)

    def test_a_number_twice(self):
        for thing in ((0, 0), (1, 2, 1), (GREATEST, 3, GREATEST), tuple(range(39)) + (38,)):
            self.told(thing, False)

    def test_truths_are_no_numbers(self):
        for thing in ((True,), (False,), (True, False), (2, 3, True), (False, 5)):
            self.told(thing, False)

    def test_lists_are_no_rows(self):
        for thing in ([5], [3, 1, 2], [], [(3, 1, 2)], ([3, 1, 2],)):
            self.told(thing, False)

    def test_things_of_all_kinds(self):
        for thing in things.THINGS + things.NO_ROWS:
            self.told(thing, False)


class IsParting(unittest.TestCase):
    def told(self, row, thing, wanted):
        things.same_kind(self, things.unchanged(self, is_parting, row, thing), wanted)

    def test_ordinary(self):
        self.told((3, 1, 4, 2), ("down", "down", "up", "up"), False)
        self.told((3, 4, 1, 2), ("up", "up", "down", "down"), False)
        self.told((3, 4, 2, 1), ("up", "up", "down", "down"), True)
        self.told((5, 6, 4, 7, 3), ("up", "up", "down", "up", "down"), True)
        self.told((5, 6, 4, 7, 3), ("down", "up", "down", "up", "down"), True)
        self.told((5, 6, 4, 7, 3), ("down", "down", "down", "up", "down"), False)

    def test_too_short_and_too_long(self):
        row = (5, 6, 4)
        self.told(row, ("up", "up", "down"), True)
        self.told(row, (), False)
        self.told(row, ("up", "up"), False)
        self.told(row, ("up", "up", "down", "down"), False)
        self.told(row, ("up", "up", "down", "x"), False)

    def test_another_text(self):
        for text in ("Up", "UP", "up ", "dow", "either", "", "left", "u", "downup"):
            self.told((5, 6, 4), ("up", "up", text), False)
            self.told((5,), (text,), False)

    def test_no_tuple(self):
        self.told((5, 6, 4), ["up", "up", "down"], False)
        self.told((5,), ["up"], False)
        self.told((5,), "up", False)
        self.told((5, 6), "up", False)
        self.told((5, 6), (("up", "down"),), False)
        self.told((5, 6), (["up"], ["down"]), False)

    def test_all_on_one_side(self):
        self.told((1, 2, 3), ("up",) * 3, True)
        self.told((1, 2, 3), ("down",) * 3, False)
        self.told((3, 2, 1), ("down",) * 3, True)
        self.told((3, 2, 1), ("up",) * 3, False)
        self.told((GREATEST,), ("up",), True)
        self.told((0,), ("down",), True)

    def test_a_side_that_does_not_rise_or_fall(self):
        self.told((1, 9, 2, 8), ("up", "up", "up", "down"), False)
        self.told((9, 1, 8, 2, 3), ("down", "up", "down", "up", "up"), True)
        self.told((9, 1, 8, 2, 3), ("down", "up", "down", "up", "down"), True)
        self.told((9, 1, 8, 2, 3), ("down", "up", "down", "down", "down"), False)

    def test_things_of_all_kinds(self):
        for row in ((5,), (5, 6), (3, 1, 2), tuple(range(40))):
            for thing in things.THINGS:
                self.told(row, thing, False)
                given = (thing,) * len(row)
                self.told(row, given, thing in ("up", "down") and things.is_split(row, given))

    def test_all_ways_to_give_sides(self):
        for row in things.small_rows(5):
            for given in itertools.product(("down", "up"), repeat=len(row)):
                self.told(row, given, things.is_split(row, given))

    def test_rows_of_40_cards(self):
        for row, given in things.long_woven_rows():
            self.told(row, given, True)
            self.told(row, list(given), False)
            self.told(row, given[:-1], False)
            for place in range(40):
                other = list(given)
                other[place] = "down" if given[place] == "up" else "up"
                self.told(row, tuple(other), things.is_split(row, other))


class Partings(unittest.TestCase):
    def told(self, row, partings):
        first = partings[0] if partings else None
        things.same_kind(self, things.unchanged(self, parting, row), first)
        things.same_kind(self, things.unchanged(self, how_many, row), len(partings))
        things.same_kind(self, things.unchanged(self, sides, row), things.sides_of(partings))

    def test_by_hand(self):
        self.assertEqual(parting((7,)), ("down",))
        self.assertEqual(how_many((7,)), 2)
        self.assertEqual(sides((7,)), ("either",))
        self.assertEqual(parting((1, 2)), ("down", "up"))
        self.assertEqual(how_many((1, 2)), 3)
        self.assertEqual(parting((2, 1)), ("down", "down"))
        self.assertEqual(parting((1, 2, 3)), ("down", "up", "up"))
        self.assertEqual(how_many((1, 2, 3)), 4)
        self.assertEqual(sides((1, 9, 8, 2)), ("up", "either", "either", "either"))
        self.assertEqual(parting((5, 6, 4, 7, 3)), ("down", "up", "down", "up", "down"))
        self.assertEqual(how_many((5, 6, 4, 7, 3)), 3)
        self.assertEqual(sides((5, 6, 4, 7, 3)), ("either", "either", "down", "up", "down"))

    def test_none(self):
        for row in ((2, 1, 4, 3), (3, 4, 1, 2)):
            self.assertIsNone(parting(row))
            self.assertEqual(how_many(row), 0)
            self.assertIsNone(sides(row))

    def test_all_small_rows(self):
        for row in things.small_rows(7):
            self.told(row, things.partings_of(row))

    def test_drawn_rows(self):
        for row in things.drawn_rows(8, 12, 8, 11):
            self.told(row, things.partings_of(row))

    def test_woven_rows_of_40_cards(self):
        for row, given in things.long_woven_rows():
            self.told(row, things.changed(row, given))

    def test_in_order_and_falling(self):
        rising = tuple(range(40))
        self.assertEqual(how_many(rising), 41)
        self.assertEqual(parting(rising), ("down",) + ("up",) * 39)
        self.assertEqual(sides(rising), ("either",) * 40)
        self.assertEqual(how_many(rising[::-1]), 41)
        self.assertEqual(parting(rising[::-1]), ("down",) * 40)

    def test_rows_of_40_cards_that_are_not_woven(self):
        for row in things.long_bad_rows():
            self.told(row, [])

    def test_long_rows_are_answered_promptly(self):
        rows = [row for row, given in things.long_woven_rows()] + list(things.long_bad_rows())
        began = time.monotonic()
        for row in rows * 10:
            parting(row)
            how_many(row)
            sides(row)
        self.assertLess(time.monotonic() - began, 20)

    def test_asked_again(self):
        for row in ((3, 1, 2), (2, 1, 4, 3), things.outward(40)[0]):
            for ask in (parting, how_many, sides):
                self.assertEqual(ask(row), ask(row))


if __name__ == "__main__":
    unittest.main()
