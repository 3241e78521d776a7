"""Point 12: a row that is laid card by card."""

import itertools
import random
import unittest

import things
from wovenway.errors import Barred, Full, NoCard, NoneLeft, Taken
from wovenway.laid import Laid

GREATEST = things.GREATEST


def is_card(thing):
    return type(thing) is int and 0 <= thing <= GREATEST


NO_CARDS = [thing for thing in things.THINGS if not is_card(thing)] + [
    GREATEST + 1, -5, "7", (7,), [7], (0, 1), [[0]], "1000000000",
]


def laid_of(cards):
    laid = Laid()
    for card in cards:
        laid.lay(card)
    return laid


def first_four(row):
    """The first four places, the last one's the last, that bar the row, None where none do."""
    last = len(row) - 1
    for places in itertools.combinations(range(last), 3):
        if things.do_bar(row, places + (last,)):
            return places + (last,)
    return None


def refusal(row, thing):
    """The error that is due where the thing is laid behind the row, and its four, both None where none is."""
    if not is_card(thing):
        return NoCard, None
    if thing in row:
        return Taken, None
    if len(row) == 40:
        return Full, None
    found = first_four(row + (thing,))
    return (Barred, found) if found else (None, None)


def gaps(row):
    """All stretches between the numbers of the row, with whether a number of them keeps it woven."""
    partings = things.found_partings(row)
    edges = [-1] + sorted(row) + [GREATEST + 1]
    for below, above in zip(edges, edges[1:]):
        if below + 1 < above:
            card = below + 1
            fits = any(
                things.is_split(row + (card,), given + (side,)) for given in partings for side in ("up", "down")
            )
            yield (below + 1, above - 1), fits


class Case(unittest.TestCase):
    def lies(self, laid, row):
        """See that all that is told of the laid row is what must be told of this row."""
        partings = things.found_partings(row)
        things.same_kind(self, laid.cards(), row)
        things.same_kind(self, len(laid), len(row))
        things.same_kind(self, laid.partings(), len(partings))
        things.same_kind(self, laid.sides(), things.sides_of(partings))
        things.same_kind(self, laid.can_be_laid(), [ends for ends, fits in gaps(row) if fits])

    def is_refused(self, error, deed, *handed):
        with self.assertRaises(error) as caught:
            deed(*handed)
        self.assertIs(type(caught.exception), error)
        return caught.exception

    def lay(self, laid, row, thing):
        """Lay, see that what is due comes of it, and return the row that lies then, with the error."""
        error, places = refusal(row, thing)
        if error is None:
            self.assertIsNone(laid.lay(thing))
            return row + (thing,), None
        caught = self.is_refused(error, laid.lay, thing)
        if error is Barred:
            things.same_kind(self, caught.four, places)
        return row, error

    def take(self, laid, row):
        if not row:
            self.is_refused(NoneLeft, laid.take)
            return row, NoneLeft
        self.assertIsNone(laid.take())
        return row[:-1], None


class Deeds(Case):
    def any_deed(self, chance, laid, row, most):
        luck = chance.random()
        if luck < 0.15:
            return self.take(laid, row)
        if luck < 0.25:
            return self.lay(laid, row, chance.choice(NO_CARDS))
        if luck < 0.6:
            return self.lay(laid, row, chance.randint(0, most))
        stretches = laid.can_be_laid()
        if not stretches:
            return self.take(laid, row)
        low, high = chance.choice(stretches)
        return self.lay(laid, row, chance.choice((low, high, chance.randint(low, high))))

    def test_many_short_runs(self):
        chance = random.Random(121)
        seen = set()
        for most in (6, 9, 15, 100, GREATEST):
            for _ in range(12):
                laid, row = Laid(), ()
                for _ in range(40):
                    row, error = self.any_deed(chance, laid, row, most)
                    seen.add(error)
                    self.lies(laid, row)
        self.assertEqual(seen, {None, NoCard, Taken, Barred, NoneLeft})

    def test_long_rows_laid_and_taken(self):
        chance = random.Random(122)
        for woven, given in list(things.long_woven_rows())[:9]:
            laid, row = Laid(), ()
            for card in woven:
                row, error = self.lay(laid, row, card)
                self.assertIsNone(error)
                if chance.random() < 0.15:
                    self.lies(laid, row)
            self.assertEqual(row, woven)
            self.lies(laid, row)
            for _ in range(40):
                row, error = self.take(laid, row)
                self.assertIsNone(error)
                if chance.random() < 0.15:
                    self.lies(laid, row)
            self.take(laid, row)
            self.lies(laid, ())
            self.assertEqual(laid, Laid())

    def test_runs_about_40_cards(self):
        chance = random.Random(123)
        seen = set()
        for woven, given in list(things.long_woven_rows())[:8]:
            laid, row = laid_of(woven), woven
            for _ in range(25):
                row, error = self.any_deed(chance, laid, row, GREATEST)
                seen.add(error)
            self.lies(laid, row)
        self.assertLessEqual({None, NoCard, Full, Barred}, seen)

    def test_laid_until_barred(self):
        for cards in things.small_rows(6):
            laid, row = Laid(), ()
            for card in cards:
                row, error = self.lay(laid, row, card)
            self.assertEqual(laid.cards(), row)
            self.assertEqual(len(row) == len(cards), things.is_woven(cards))


class Refused(Case):
    def test_no_card(self):
        for row in ((), (5,), (2, 1, 4), tuple(range(40))):
            laid = laid_of(row)
            for thing in NO_CARDS:
                self.is_refused(NoCard, laid.lay, thing)
                self.assertEqual(laid.cards(), row)
            self.lies(laid, row)

    def test_ends_of_the_numbers(self):
        laid = Laid()
        self.is_refused(NoCard, laid.lay, -1)
        self.is_refused(NoCard, laid.lay, GREATEST + 1)
        laid.lay(0)
        laid.lay(GREATEST)
        self.lies(laid, (0, GREATEST))

    def test_a_truth_is_no_card(self):
        laid = laid_of((1, 0))
        self.is_refused(NoCard, laid.lay, True)
        self.is_refused(NoCard, laid.lay, False)
        self.lies(laid, (1, 0))

    def test_taken(self):
        laid = laid_of((5, 0, 9))
        for card in (5, 0, 9):
            self.is_refused(Taken, laid.lay, card)
        self.lies(laid, (5, 0, 9))
        laid.take()
        laid.lay(9)
        self.lies(laid, (5, 0, 9))

    def test_full(self):
        row = tuple(range(10, 50))
        laid = laid_of(row[:-1])
        self.lies(laid, row[:-1])
        laid.lay(row[-1])
        for card in (0, 9, 50, GREATEST):
            self.is_refused(Full, laid.lay, card)
        self.lies(laid, row)
        laid.take()
        laid.lay(GREATEST)
        self.is_refused(Full, laid.lay, 49)
        self.lies(laid, row[:-1] + (GREATEST,))

    def test_barred(self):
        laid = laid_of((20, 10, 40))
        self.assertEqual(self.is_refused(Barred, laid.lay, 30).four, (0, 1, 2, 3))
        self.lies(laid, (20, 10, 40))
        laid = laid_of((30, 40, 10))
        self.assertEqual(self.is_refused(Barred, laid.lay, 20).four, (0, 1, 2, 3))
        self.lies(laid, (30, 40, 10))

    def test_barred_by_several_fours(self):
        laid = laid_of((10, 30, 20, 15, 60))
        self.assertEqual(self.is_refused(Barred, laid.lay, 50).four, (1, 2, 4, 5))
        self.assertEqual(self.is_refused(Barred, laid.lay, 25).four, (2, 3, 4, 5))
        self.lies(laid, (10, 30, 20, 15, 60))

    def test_several_due_at_once(self):
        row = (1, 0, 5) + tuple(range(6, 43))
        self.assertEqual(len(row), 40)
        self.assertIsNotNone(first_four(row + (3,)))
        laid = laid_of(row)
        for truth in (True, False):
            self.is_refused(NoCard, laid.lay, truth)
        for card in row:
            self.is_refused(Taken, laid.lay, card)
        for card in (2, 3, 4, 43):
            self.is_refused(Full, laid.lay, card)
        self.lies(laid, row)
        laid.take()
        self.assertEqual(self.is_refused(Barred, laid.lay, 3).four, first_four(row[:-1] + (3,)))
        self.is_refused(Taken, laid.lay, 5)
        self.lies(laid, row[:-1])

    def test_none_left(self):
        laid = Laid()
        self.is_refused(NoneLeft, laid.take)
        self.lies(laid, ())
        laid.lay(4)
        laid.take()
        self.is_refused(NoneLeft, laid.take)
        self.lies(laid, ())


class Told(Case):
    def test_of_none(self):
        laid = Laid()
        self.assertEqual(laid.cards(), ())
        self.assertEqual(laid.partings(), 1)
        self.assertEqual(laid.sides(), ())
        self.assertEqual(laid.can_be_laid(), [(0, GREATEST)])
        self.assertEqual(len(laid), 0)

    def test_by_hand(self):
        laid = laid_of((5, 6, 4, 7, 3))
        self.assertEqual(laid.partings(), 3)
        self.assertEqual(laid.sides(), ("either", "either", "down", "up", "down"))
        self.assertEqual(laid.can_be_laid(), [(0, 2), (8, GREATEST)])

    def test_stretches_of_one_card(self):
        self.assertEqual(laid_of((0,)).can_be_laid(), [(1, GREATEST)])
        self.assertEqual(laid_of((GREATEST,)).can_be_laid(), [(0, GREATEST - 1)])
        self.assertEqual(laid_of((7,)).can_be_laid(), [(0, 6), (8, GREATEST)])
        self.assertEqual(laid_of((1,)).can_be_laid(), [(0, 0), (2, GREATEST)])

    def test_stretches_of_two_cards(self):
        self.assertEqual(laid_of((4, 5)).can_be_laid(), [(0, 3), (6, GREATEST)])
        self.assertEqual(laid_of((6, 4)).can_be_laid(), [(0, 3), (5, 5), (7, GREATEST)])
        self.assertEqual(laid_of((0, GREATEST)).can_be_laid(), [(1, GREATEST - 1)])

    def test_no_stretch_between_neighbours(self):
        self.assertEqual(laid_of((0, 1, 2)).can_be_laid(), [(3, GREATEST)])

    def test_no_number_can_be_laid(self):
        laid = laid_of((1, 0, GREATEST))
        self.lies(laid, (1, 0, GREATEST))
        self.assertEqual(laid.can_be_laid(), [])

    def ends_can_be_laid(self, row):
        told = laid_of(row).can_be_laid()
        self.assertEqual(told, sorted(told))
        inside = {ends: fits for ends, fits in gaps(row)}
        for ends in told:
            self.assertIs(type(ends), tuple)
            self.assertTrue(inside[ends])
        for low, high in inside:
            for card in {low, high, (low + high) // 2}:
                laid = laid_of(row)
                if (low, high) in told:
                    laid.lay(card)
                    self.assertEqual(laid.cards(), row + (card,))
                else:
                    self.is_refused(Barred, laid.lay, card)
            for card in (low - 1, high + 1):
                beyond = Taken if is_card(card) else NoCard
                self.is_refused(beyond, laid_of(row).lay, card)

    def test_ends_of_each_stretch(self):
        self.ends_can_be_laid(())
        for row in things.small_rows(5):
            if things.is_woven(row):
                self.ends_can_be_laid(row)
        chance = random.Random(124)
        for many in (8, 15, 39):
            self.ends_can_be_laid(things.drawn_woven(chance, many)[0])

    def test_however_many_lie(self):
        for row, given in things.long_woven_rows():
            laid = laid_of(row)
            told = laid.can_be_laid()
            self.assertEqual(told, [ends for ends, fits in gaps(row) if fits])
            for low, high in told:
                for card in (low, high):
                    self.assertTrue(things.is_woven(row + (card,)))
                    self.is_refused(Full, laid.lay, card)
            self.assertEqual(laid.cards(), row)
        self.assertEqual(laid_of(tuple(range(40))).can_be_laid(), [(40, GREATEST)])
        self.assertEqual(laid_of(tuple(range(1, 41))).can_be_laid(), [(0, 0), (41, GREATEST)])

    def test_a_told_list_is_the_askers_own(self):
        laid = laid_of((7,))
        told = laid.can_be_laid()
        told.clear()
        laid.can_be_laid().append((99, 99))
        laid.can_be_laid()[0] = None
        self.lies(laid, (7,))
        self.assertIsNot(laid.can_be_laid(), laid.can_be_laid())

    def test_what_was_told_does_not_change(self):
        laid = laid_of((7, 3))
        cards, sides, told = laid.cards(), laid.sides(), laid.can_be_laid()
        laid.lay(5)
        laid.take()
        laid.take()
        self.assertEqual(cards, (7, 3))
        self.assertEqual(sides, ("either", "either"))
        self.assertEqual(told, [(0, 2), (4, 6), (8, GREATEST)])

    def test_asked_again(self):
        laid = laid_of(things.outward(40)[0])
        for ask in (laid.cards, laid.partings, laid.sides, laid.can_be_laid, laid.__len__):
            self.assertEqual(ask(), ask())


class Equal(Case):
    def test_equal_where_the_cards_are(self):
        for row in ((), (5,), (3, 1, 2), tuple(range(40))):
            self.assertTrue(laid_of(row) == laid_of(row))
            self.assertFalse(laid_of(row) != laid_of(row))
            other = laid_of(row[:-1])
            for card in row[-1:]:
                self.assertFalse(other == laid_of(row))
                other.lay(card)
            self.assertTrue(other == laid_of(row))

    def test_however_they_came_to_lie(self):
        laid = laid_of((3, 1, 2))
        laid.take()
        laid.take()
        laid.lay(9)
        self.assertTrue(laid == laid_of((3, 9)))
        self.assertFalse(laid == laid_of((3, 1, 2)))

    def test_in_another_order(self):
        self.assertFalse(laid_of((3, 1)) == laid_of((1, 3)))
        self.assertTrue(laid_of((3, 1)) != laid_of((1, 3)))

    def test_nothing_else_equals_one(self):
        for row in ((), (5,), (0,), (1,), (3, 1, 2)):
            laid = laid_of(row)
            for thing in things.THINGS + (row, list(row), len(row), str(row), object(), Laid, laid.cards()):
                self.assertIs(laid == thing, False)
                self.assertIs(thing == laid, False)
                self.assertIs(laid != thing, True)

    def test_of_its_own(self):
        one, other = Laid(), Laid()
        one.lay(4)
        self.lies(one, (4,))
        self.lies(other, ())


if __name__ == "__main__":
    unittest.main()
