"""Point 2 and the interface: what is refused, ahead of all else, and unchanged."""

import copy
import unittest

import things
from wovenway.errors import NoRow
from wovenway.fours import bars, four
from wovenway.rows import how_many, is_parting, parting, sides

OTHERS = things.THINGS + (("up",), ("down", "up"), (0, 1, 2, 3), (3, 1, 2))


class Refusals(unittest.TestCase):
    def refused(self, ask, *handed):
        before = copy.deepcopy(handed)
        with self.assertRaises(NoRow) as caught:
            ask(*handed)
        self.assertIs(type(caught.exception), NoRow)
        self.assertEqual(repr(handed), repr(before))

    def test_no_rows(self):
        for thing in things.THINGS + things.NO_ROWS:
            for ask in (parting, how_many, sides, four):
                self.refused(ask, thing)

    def test_no_rows_whatever_the_other_argument_is(self):
        for thing in things.THINGS + things.NO_ROWS:
            for other in OTHERS:
                self.refused(is_parting, thing, other)
                self.refused(bars, thing, other)

    def test_a_row_is_not_refused(self):
        for row in ((0,), (things.GREATEST,), tuple(range(40)), (2, 1, 4, 3)):
            for ask in (parting, how_many, sides, four):
                ask(row)
            for other in OTHERS:
                is_parting(row, other)
                bars(row, other)


if __name__ == "__main__":
    unittest.main()
