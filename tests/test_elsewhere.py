"""Points 7 and 8: cards that are put elsewhere, and the greatest worth that can stay."""

import itertools
import random
import time
import unittest

import things
from wovenway.elsewhere import can_be, fewest, worth, worthiest, woven_of
from wovenway.rows import parting

GREATEST = things.GREATEST


def moved_rows():
    """Woven rows of 40 cards of which some have been put elsewhere, with how many."""
    chance = random.Random(7)
    for few in (1, 1, 2, 2, 3, 5, 8):
        yield things.put_anew(chance, 40, few), few


def long_rows():
    for row, given in things.long_woven_rows():
        yield row
    yield from things.long_bad_rows()
    for row, few in moved_rows():
        yield row


def drawn_and_moved(seed, rounds, most):
    """Drawn rows of all lengths up to the most, and woven ones with some cards put elsewhere, with how many."""
    chance = random.Random(seed)
    for many in range(1, most + 1):
        for _ in range(rounds):
            yield things.drawn_row(chance, many), None
            few = chance.randint(0, min(many, 6))
            yield things.put_anew(chance, many, few), few


def drawn_worths(chance, many):
    """Worths of several kinds: alike, nought, the greatest, few kinds, and any."""
    yield (1,) * many
    yield (0,) * many
    yield (GREATEST,) * many
    yield tuple(chance.choice((0, GREATEST)) for _ in range(many))
    yield tuple(chance.choice((0, 1, 2, 3)) for _ in range(many))
    yield tuple(chance.randint(0, GREATEST) for _ in range(many))


class Fewest(unittest.TestCase):
    def told(self, row, wanted):
        answer = things.unchanged(self, fewest, row)
        things.same_kind(self, answer, wanted)
        things.same_kind(self, answer[0], wanted[0])
        things.same_kind(self, answer[1], wanted[1])

    def test_by_hand(self):
        self.told((7,), (0, ()))
        self.told((3, 1, 2), (0, ()))
        self.told((2, 1, 4, 3), (1, (0,)))
        self.told((3, 4, 1, 2), (1, (0,)))
        self.told((1, 3, 2, 5, 4), (1, (1,)))
        self.told((2, 1, 4, 3, 6, 5), (2, (0, 2)))
        self.told((GREATEST - 1, GREATEST, 0, 1), (1, (0,)))

    def test_all_small_rows(self):
        for row in things.small_rows(6):
            first = things.lots_of(row)[0]
            self.told(row, (len(first), first))

    def test_drawn_rows(self):
        for row in things.drawn_rows(71, 12, 7, 9):
            first = things.lots_of(row)[0]
            self.told(row, (len(first), first))

    def test_drawn_and_moved_rows_against_all_lots(self):
        for row, few in drawn_and_moved(75, 12, 9):
            first = things.lots_of(row)[0]
            self.told(row, (len(first), first))

    def test_drawn_and_moved_rows_of_up_to_40_cards(self):
        for row, few in drawn_and_moved(76, 4, 40):
            least, lot = fewest(row)
            self.assertEqual(least, len(lot))
            self.assertTrue(things.is_woven(things.stayed(row, lot)), row)
            if few is not None:
                self.assertLessEqual(least, few)

    def test_first_lots_of_rows_of_up_to_40_cards(self):
        for row, few in drawn_and_moved(77, 1, 40):
            self.told(row, things.first_fewest(row))

    def test_rows_of_40_cards(self):
        for row in long_rows():
            self.told(row, things.first_fewest(row))

    def test_woven_rows_of_40_cards(self):
        for row, given in things.long_woven_rows():
            self.told(row, (0, ()))

    def test_no_more_than_have_been_put_elsewhere(self):
        for row, few in moved_rows():
            self.assertLessEqual(fewest(row)[0], few)

    def test_twos_that_are_turned(self):
        row = tuple(number ^ 1 for number in range(40))
        self.told(row, (19, tuple(range(0, 38, 2))))

    def test_asked_again(self):
        for row in ((2, 1, 4, 3), (7,), tuple(number ^ 1 for number in range(40))):
            self.assertEqual(fewest(row), fewest(row))


class WovenOf(unittest.TestCase):
    def told(self, row):
        answer = things.unchanged(self, woven_of, row)
        self.assertIs(type(answer), tuple)
        self.assertEqual(sorted(answer), sorted(row))
        self.assertTrue(things.is_woven(answer), (row, answer))
        stay = things.stayed(row, fewest(row)[1])
        self.assertEqual(tuple(card for card in answer if card in stay), stay)
        self.assertEqual(woven_of(row), answer)
        if things.is_woven(row):
            self.assertEqual(answer, row)

    def test_all_small_rows(self):
        for row in things.small_rows(6):
            self.told(row)

    def test_drawn_rows(self):
        for row in things.drawn_rows(72, 25, 7, 39):
            self.told(row)

    def test_drawn_and_moved_rows(self):
        for row, few in drawn_and_moved(78, 3, 40):
            self.told(row)

    def test_rows_of_40_cards(self):
        for row in long_rows():
            self.told(row)


class CanBe(unittest.TestCase):
    def told(self, row, thing, wanted):
        things.same_kind(self, things.unchanged(self, can_be, row, thing), wanted)

    def test_by_hand(self):
        row = (2, 1, 4, 3, 5)
        self.told(row, (), False)
        self.told(row, (0,), True)
        self.told(row, (3,), True)
        self.told(row, (4,), False)
        self.told(row, (0, 1), True)
        self.told(row, (3, 4), True)
        self.told((3, 1, 2), (), True)

    def test_all_small_rows(self):
        for row in things.small_rows(5):
            can = set(things.lots_of(row))
            for lot in things.all_lots(row):
                self.told(row, lot, lot in can)

    def test_drawn_rows(self):
        for row in things.drawn_rows(73, 4, 6, 8):
            can = set(things.lots_of(row))
            for lot in things.all_lots(row):
                self.told(row, lot, lot in can)

    def test_rows_of_40_cards(self):
        chance = random.Random(74)
        for row in long_rows():
            least, first = fewest(row)
            self.told(row, first, True)
            self.told(row, (), least == 0)
            for left in first:
                self.told(row, tuple(place for place in first if place != left), False)
            for many in (1, 5, 20, 36, 37):
                lot = tuple(sorted(chance.sample(range(40), many)))
                self.told(row, lot, things.is_woven(things.stayed(row, lot)))
                more = tuple(sorted(set(lot) | set(first)))
                self.told(row, more, True)

    def test_none_put_elsewhere(self):
        for row in itertools.chain(things.small_rows(7), things.drawn_rows(79, 60, 8, 40), long_rows()):
            self.told(row, (), parting(row) is not None)

    def test_all_places(self):
        for row in ((5,), (2, 1, 4, 3), tuple(number ^ 1 for number in range(40))):
            places = tuple(range(len(row)))
            self.told(row, places, True)
            self.told(row, list(places), False)
            self.told(row, places + (len(row),), False)
            self.told(row, (-1,) + places, False)

    def test_a_list(self):
        self.told((2, 1, 4, 3), [0], False)
        self.told((2, 1, 4, 3), [], False)
        self.told((1, 2, 3), [], False)
        self.told((2, 1, 4, 3), ([0],), False)
        self.told((2, 1, 4, 3), ((0,),), False)

    def test_places_out_of_order_or_twice(self):
        row = (2, 1, 4, 3)
        for places in itertools.product(range(4), repeat=3):
            self.told(row, places, places[0] < places[1] < places[2])
        self.told(row, (0, 0), False)
        self.told(row, (1, 0), False)
        self.told(row, (3, 2, 1, 0), False)

    def test_places_that_are_no_cards(self):
        row = (2, 1, 4, 3)
        for thing in ((-1,), (4,), (0, 4), (-1, 0), (-4,), (-4, 0), (0, 40), (0, 10 ** 39), (-10 ** 39, 0)):
            self.told(row, thing, False)

    def test_truths_for_places(self):
        row = (2, 1, 4, 3)
        for thing in ((False,), (True,), (False, 1), (0, True), (False, True), (True, 2)):
            self.told(row, thing, False)

    def test_things_of_all_kinds(self):
        for row in ((5,), (2, 1, 4, 3), tuple(range(40))):
            for thing in things.THINGS:
                self.told(row, thing, thing == () and things.is_woven(row))
                whole = isinstance(thing, int) and not isinstance(thing, bool)
                self.told(row, (thing,), whole and 0 <= thing < len(row))


class Worth(unittest.TestCase):
    def told(self, row, worths, wanted):
        things.same_kind(self, things.unchanged(self, worth, row, worths), wanted)
        places = things.unchanged(self, worthiest, row, worths)
        self.assertIs(type(places), tuple)
        self.assertEqual(list(places), sorted(set(places)))
        self.assertTrue(all(type(place) is int and 0 <= place < len(row) for place in places))
        self.assertEqual(sum(worths[place] for place in places), wanted)
        self.assertTrue(things.is_woven(tuple(row[place] for place in places)))
        self.assertEqual(worthiest(row, worths), places)

    def test_by_hand(self):
        self.told((7,), (0,), 0)
        self.told((7,), (GREATEST,), GREATEST)
        self.told((3, 1, 2), (5, 6, 7), 18)
        self.told((2, 1, 4, 3), (5, 6, 7, 8), 21)
        self.told((2, 1, 4, 3), (5, 6, 0, 8), 19)
        self.assertEqual(worthiest((2, 1, 4, 3), (5, 6, 7, 8)), (1, 2, 3))
        self.assertEqual(worthiest((2, 1, 4, 3), (5, 1, 7, 8)), (0, 2, 3))
        self.assertEqual(worthiest((2, 1, 4, 3), (5, 6, 0, 8)), (0, 1, 3))
        self.told((2, 1, 4, 3, 6, 5), (9, 1, 9, 9, 1, 9), 36)

    def against_all_lots(self, row, chance):
        stays = [tuple(place for place in range(len(row)) if place not in lot) for lot in things.lots_of(row)]
        for worths in drawn_worths(chance, len(row)):
            self.told(row, worths, max(sum(worths[place] for place in stay) for stay in stays))

    def test_all_small_rows(self):
        chance = random.Random(81)
        for row in things.small_rows(6):
            if len(row) < 6 or chance.random() < 0.5:
                self.against_all_lots(row, chance)

    def test_drawn_rows(self):
        chance = random.Random(82)
        for row in things.drawn_rows(83, 8, 7, 9):
            self.against_all_lots(row, chance)

    def test_drawn_and_moved_rows_against_all_lots(self):
        chance = random.Random(86)
        for row, few in drawn_and_moved(87, 6, 9):
            self.against_all_lots(row, chance)

    def test_drawn_and_moved_rows_of_up_to_40_cards(self):
        chance = random.Random(88)
        for at, (row, few) in enumerate(drawn_and_moved(89, 1, 40)):
            worths = list(drawn_worths(chance, len(row)))[at % 6]
            self.told(row, worths, things.greatest_stay(row, worths))

    def test_cards_that_are_worth_nothing_stay_in_a_woven_row(self):
        for row, given in things.long_woven_rows():
            for worths in ((0,) * 40, (0, 7) * 20):
                self.assertEqual(worthiest(row, worths), tuple(range(40)))

    def test_rows_of_40_cards(self):
        chance = random.Random(84)
        for at, row in enumerate(long_rows()):
            kinds = list(drawn_worths(chance, 40))
            for worths in (kinds[at % 5], kinds[5]):
                self.told(row, worths, things.greatest_stay(row, worths))

    def test_worths_of_one_each(self):
        for row in itertools.chain(things.small_rows(5), things.drawn_rows(85, 10, 10, 30), long_rows()):
            self.told(row, (1,) * len(row), len(row) - fewest(row)[0])
        for row, few in drawn_and_moved(90, 4, 40):
            self.told(row, (1,) * len(row), len(row) - fewest(row)[0])


class Promptly(unittest.TestCase):
    def test_rows_of_40_cards(self):
        rows = list(long_rows())
        worths = tuple(range(GREATEST, GREATEST - 40, -1))
        for ask in (fewest, woven_of, lambda row: worth(row, worths), lambda row: worthiest(row, worths)):
            began = time.monotonic()
            for row in rows:
                ask(row)
            self.assertLess(time.monotonic() - began, 20)
        began = time.monotonic()
        for row in rows * 10:
            can_be(row, (3, 8))
        self.assertLess(time.monotonic() - began, 20)


if __name__ == "__main__":
    unittest.main()
