"""Point 3: what holds over the whole program, each part seen by the others."""

import itertools
import unittest

import things
from wovenway.counted import filled, rows_of
from wovenway.elsewhere import can_be, fewest, worth, worthiest, woven_of
from wovenway.errors import Barred
from wovenway.fours import bars, four
from wovenway.laid import Laid
from wovenway.rings import seams
from wovenway.rows import how_many, is_parting, is_row, parting, sides


def asked_rows():
    yield from things.small_rows(6)
    yield from things.drawn_rows(3, 25, 7, 40)
    for row, given in things.long_woven_rows():
        yield row
    yield from things.long_bad_rows()


def told_below(row):
    return tuple(things.GREATEST - card for card in row)


class Whole(unittest.TestCase):
    def test_woven_just_where_no_four_bar(self):
        seen = set()
        for row in asked_rows():
            woven = four(row) is None
            self.assertEqual(how_many(row) > 0, woven, row)
            self.assertEqual(parting(row) is not None, woven, row)
            self.assertEqual(sides(row) is not None, woven, row)
            seen.add(woven)
        self.assertEqual(seen, {True, False})

    def test_of_four_that_bar_no_parting_is(self):
        for row in itertools.permutations((0, 5, 9, things.GREATEST)):
            if four(row) is not None:
                for given in itertools.product(("down", "up"), repeat=4):
                    self.assertFalse(is_parting(row, given))

    def test_any_two_partings_change_one_card_of_each_side(self):
        for row in things.small_rows(6):
            partings = [given for given in itertools.product(("down", "up"), repeat=len(row)) if is_parting(row, given)]
            self.assertEqual(how_many(row), len(partings))
            for one, other in itertools.combinations(partings, 2):
                moved = [side for side, later in zip(one, other) if side != later]
                self.assertLessEqual(moved.count("up"), 1)
                self.assertLessEqual(moved.count("down"), 1)

    def test_no_more_partings_than_one_more_than_cards(self):
        for row in asked_rows():
            self.assertLessEqual(how_many(row), len(row) + 1)
        for many in range(1, 41):
            self.assertEqual(how_many(tuple(range(many))), many + 1)

    def test_the_told_parting_is_one(self):
        for row in asked_rows():
            first = parting(row)
            if first is not None:
                self.assertTrue(is_parting(row, first))
                for side, sure in zip(first, sides(row)):
                    self.assertIn(sure, (side, "either"))

    def test_read_from_its_end(self):
        other = {"up": "down", "down": "up", "either": "either"}
        for row in asked_rows():
            back = row[::-1]
            self.assertEqual(how_many(back), how_many(row))
            self.assertEqual(four(back) is None, four(row) is None)
            if how_many(row):
                self.assertEqual(sides(back), tuple(other[side] for side in sides(row)[::-1]))
                self.assertTrue(is_parting(back, tuple(other[side] for side in parting(row)[::-1])))

    def test_told_below_a_great_number(self):
        other = {"up": "down", "down": "up", "either": "either"}
        for row in asked_rows():
            below = told_below(row)
            self.assertEqual(how_many(below), how_many(row))
            self.assertEqual(four(below), four(row))
            if how_many(row):
                self.assertEqual(sides(below), tuple(other[side] for side in sides(row)))
                self.assertTrue(is_parting(below, tuple(other[side] for side in parting(row))))

    def test_taken_out_of_a_woven_row(self):
        for row in things.small_rows(6):
            if how_many(row):
                for many in range(1, len(row)):
                    for left in itertools.combinations(row, many):
                        self.assertGreater(how_many(left), 0)
                        self.assertIsNone(four(left))
        for row, given in things.long_woven_rows():
            for step in (1, 2, 3, 7):
                for start in range(1, 5):
                    self.assertTrue(is_parting(row[start::step], given[start::step]))
                    self.assertGreater(how_many(row[start::step]), 0)
                    self.assertIsNone(four(row[start::step]))


class Elsewhere(unittest.TestCase):
    def test_by_the_told_ones_it_can_be_woven(self):
        for row in asked_rows():
            least, lot = fewest(row)
            self.assertEqual(len(lot), least)
            self.assertEqual(least == 0, how_many(row) > 0)
            self.assertTrue(can_be(row, lot))
            woven = woven_of(row)
            self.assertTrue(is_row(woven))
            self.assertEqual(sorted(woven), sorted(row))
            self.assertGreater(how_many(woven), 0)

    def test_by_no_fewer_and_none_ahead(self):
        for row in things.small_rows(5):
            lots = [lot for lot in things.all_lots(row) if can_be(row, lot)]
            self.assertEqual(fewest(row), (len(lots[0]), lots[0]))

    def test_what_can_be_is_woven_without_it(self):
        for row in things.small_rows(5):
            for lot in things.all_lots(row):
                stay = things.stayed(row, lot)
                self.assertEqual(can_be(row, lot), not stay or how_many(stay) > 0)

    def test_no_cards_that_stay_are_worth_more(self):
        for row in things.small_rows(5):
            worths = tuple(card % 11 for card in row)
            stays = [things.stayed(worths, lot) for lot in things.all_lots(row) if can_be(row, lot)]
            self.assertEqual(worth(row, worths), max(sum(stay) for stay in stays))
            lot = tuple(place for place in range(len(row)) if place not in worthiest(row, worths))
            self.assertTrue(can_be(row, lot))
            self.assertEqual(sum(things.stayed(worths, lot)), worth(row, worths))

    def test_read_from_its_end_or_told_below(self):
        for row in asked_rows():
            self.assertEqual(fewest(row[::-1])[0], fewest(row)[0])
            self.assertEqual(fewest(told_below(row)), fewest(row))
            worths = tuple(card % 11 for card in row)
            self.assertEqual(worth(row[::-1], worths[::-1]), worth(row, worths))
            self.assertEqual(worth(told_below(row), worths), worth(row, worths))

    def test_taken_out_too(self):
        for row in things.small_rows(5):
            for lot in things.all_lots(row):
                if can_be(row, lot):
                    for place in range(len(row)):
                        self.assertTrue(can_be(row, tuple(sorted({*lot, place}))))


class Rings(unittest.TestCase):
    def test_just_at_the_told_seams(self):
        for ring in asked_rows():
            woven = [seam for seam in range(len(ring)) if how_many(ring[seam:] + ring[:seam]) > 0]
            self.assertEqual(seams(ring), woven)

    def test_told_below_a_great_number(self):
        for ring in asked_rows():
            self.assertEqual(seams(told_below(ring)), seams(ring))


class Counted(unittest.TestCase):
    def test_as_many_rows_as_told_are_woven(self):
        for many in range(1, 8):
            rows = itertools.permutations(range(1, many + 1))
            self.assertEqual(rows_of(many), sum(how_many(row) > 0 for row in rows))

    def test_as_many_as_told_fill_what_is_hidden(self):
        for many in range(1, 8):
            self.assertEqual(filled((None,) * many)[0], rows_of(many))
            for place in range(many):
                seen = [(None,) * place + (number,) + (None,) * (many - 1 - place) for number in range(1, many + 1)]
                self.assertEqual(sum(filled(hidden)[0] for hidden in seen), rows_of(many))


class LaidRows(unittest.TestCase):
    def test_laid_as_far_as_it_is_woven(self):
        for row in asked_rows():
            laid = Laid()
            for many, card in enumerate(row):
                longer = row[:many + 1]
                if how_many(longer) == 0:
                    with self.assertRaises(Barred) as caught:
                        laid.lay(card)
                    self.assertEqual(caught.exception.four, four(longer))
                    self.assertTrue(bars(longer, caught.exception.four))
                    break
                laid.lay(card)
                self.assertEqual(laid.partings(), how_many(longer))
                self.assertEqual(laid.sides(), sides(longer))
            self.assertEqual(laid.cards() == row, how_many(row) > 0)


if __name__ == "__main__":
    unittest.main()
