"""Point 2 and the interface: what is refused, ahead of all else, and unchanged."""

import copy
import unittest

import things
from wovenway.counted import filled, rows_of
from wovenway.elsewhere import can_be, fewest, worth, worthiest, woven_of
from wovenway.errors import NoHidden, NoNumber, NoRow, NoWorths
from wovenway.fours import bars, four
from wovenway.rings import seams
from wovenway.rows import how_many, is_parting, parting, sides

GREATEST = things.GREATEST

OF_A_ROW = (parting, how_many, sides, four, fewest, woven_of, seams)
OF_A_ROW_AND_A_THING = (is_parting, bars, can_be)
OF_A_ROW_AND_WORTHS = (worth, worthiest)

OTHERS = things.THINGS + (("up",), ("down", "up"), (0, 1, 2, 3), (3, 1, 2), (1,) * 41)

NO_WORTHS_OF_THREE = things.THINGS + (
    (1, 2), (1, 2, 3, 4), [1, 2, 3], ([1, 2, 3],), (1, 2, -1), (-1, 2, 1), (1, GREATEST + 1, 2), (1, 2, True),
    (False, 1, 2), (1, None, 2), (1, "2", 3), ("1", "2", "3"), "123", (1, (2,), 3), (1, [2], 3), (10 ** 40 - 1, 1, 1),
)

NO_NUMBERS = tuple(thing for thing in things.THINGS if type(thing) is not int or not 0 <= thing <= 60) + (
    61, 62, 100, GREATEST, -60, "60", (60,), [60],
)

NO_HIDDEN = tuple(thing for thing in things.THINGS if thing not in ((None,), (1, None))) + (
    (None,) * 8, (1, 2, 3, 4, 5, 6, 7, 8), (None,) * 40, [None, 1], [2, 1], [None] * 7, ([None, 1],), ((None, 1),),
    (0,), (2,), (0, None), (None, 3), (1, 2, 4), (-1, 1), (1, 1), (None, 2, 2), (1, None, 1), (None, GREATEST),
    (True, 2), (None, True), (False, 1), (1, False), (None, "1"), ("1", "2"), (None, (1,)), (None, [1]), ((), None),
    (1, 2, 3, 4, 5, 6, 8), (1, 2, 3, 4, 5, 6, 6), (None, None, None, None, None, None, 0),
)


class Refusals(unittest.TestCase):
    def refused(self, error, ask, *handed):
        before = copy.deepcopy(handed)
        with self.assertRaises(error) as caught:
            ask(*handed)
        self.assertIs(type(caught.exception), error)
        self.assertEqual(repr(handed), repr(before))

    def test_no_rows(self):
        for thing in things.THINGS + things.NO_ROWS:
            for ask in OF_A_ROW:
                self.refused(NoRow, ask, thing)

    def test_no_rows_whatever_the_other_argument_is(self):
        for thing in things.THINGS + things.NO_ROWS:
            for other in OTHERS:
                for ask in OF_A_ROW_AND_A_THING + OF_A_ROW_AND_WORTHS:
                    self.refused(NoRow, ask, thing, other)

    def test_no_worths(self):
        for ask in OF_A_ROW_AND_WORTHS:
            for row in ((3, 1, 2), (0, GREATEST, 5)):
                for thing in NO_WORTHS_OF_THREE:
                    self.refused(NoWorths, ask, row, thing)
            for row in ((5,), (5, 6), (2, 1, 4, 3), tuple(range(40))):
                for thing in things.THINGS:
                    self.refused(NoWorths, ask, row, thing)
                for many in (len(row) - 1, len(row) + 1):
                    self.refused(NoWorths, ask, row, (1,) * many)
                self.refused(NoWorths, ask, row, (1,) * (len(row) - 1) + (GREATEST + 1,))
                self.refused(NoWorths, ask, row, (1,) * (len(row) - 1) + (True,))
                self.refused(NoWorths, ask, row, [1] * len(row))

    def test_no_numbers(self):
        for thing in NO_NUMBERS:
            self.refused(NoNumber, rows_of, thing)

    def test_no_hidden_rows(self):
        for thing in NO_HIDDEN:
            self.refused(NoHidden, filled, thing)

    def test_a_row_is_not_refused(self):
        for row in ((0,), (GREATEST,), tuple(range(40)), (2, 1, 4, 3)):
            for ask in OF_A_ROW:
                ask(row)
            for other in OTHERS:
                for ask in OF_A_ROW_AND_A_THING:
                    ask(row, other)

    def test_worths_are_not_refused(self):
        for ask in OF_A_ROW_AND_WORTHS:
            for row in ((0,), (2, 1, 4, 3), tuple(range(40))):
                for one in (0, 1, GREATEST):
                    ask(row, (one,) * len(row))

    def test_numbers_and_hidden_rows_are_not_refused(self):
        for many in range(61):
            rows_of(many)
        for hidden in ((None,), (1,), (1, None), (None,) * 7, (7, None, None, None, None, None, 1), (2, 1, 4, 3)):
            filled(hidden)


if __name__ == "__main__":
    unittest.main()
