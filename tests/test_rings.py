"""Point 9: rings, and the seams at which they can be cut."""

import itertools
import random
import time
import unittest

import things
from wovenway.rings import seams
from wovenway.rows import parting

GREATEST = things.GREATEST


def cut(ring, seam):
    return ring[seam:] + ring[:seam]


def seams_of(ring):
    return [seam for seam in range(len(ring)) if things.is_woven(cut(ring, seam))]


def long_rings():
    chance = random.Random(9)
    for row, given in things.long_woven_rows():
        yield cut(row, chance.randrange(40))
    yield tuple(range(40))
    yield from things.long_bad_rows()


def rings_of_all_kinds(chance, many):
    """Rings in order, falling, woven by turns, woven, drawn, and with some cards put elsewhere."""
    by_turns = tuple(50 + step // 2 if step % 2 == 0 else 49 - step // 2 for step in range(many))
    for ring in (tuple(range(many)), tuple(range(many, 0, -1)), by_turns, by_turns[::-1]):
        yield ring
        yield cut(ring, chance.randrange(many))
        moved = list(ring)
        moved.insert(chance.randrange(many), moved.pop(chance.randrange(many)))
        yield tuple(moved)
    yield things.drawn_woven(chance, many)[0]
    yield things.drawn_row(chance, many)
    for few in (1, 2, 5):
        yield cut(things.put_anew(chance, many, few), chance.randrange(many))


class Seams(unittest.TestCase):
    def told(self, ring):
        wanted = seams_of(ring)
        things.same_kind(self, things.unchanged(self, seams, ring), wanted)

    def test_by_hand(self):
        self.assertEqual(seams((7,)), [0])
        self.assertEqual(seams((7, 3)), [0, 1])
        self.assertEqual(seams((3, 1, 2)), [0, 1, 2])
        self.assertEqual(seams((1, 2, 3, 4)), [0, 1, 3])
        self.assertEqual(seams((4, 3, 2, 1)), [0, 1, 3])
        self.assertEqual(seams((2, 1, 4, 3)), [1, 2, 3])
        self.assertEqual(seams((3, 4, 1, 2)), [1, 2, 3])

    def test_at_none(self):
        ring = tuple(number ^ 1 for number in range(12))
        self.assertEqual(seams(ring), [])

    def test_all_small_rings(self):
        for ring in things.small_rows(6):
            self.told(ring)

    def test_drawn_rings(self):
        for ring in things.drawn_rows(91, 25, 7, 20):
            self.told(ring)

    def test_rings_of_40_cards(self):
        found = 0
        for ring in long_rings():
            self.told(ring)
            found += len(seams(ring)) > 0
        self.assertGreater(found, 0)

    def test_rings_of_all_kinds_against_parting(self):
        chance = random.Random(92)
        for many in range(1, 41):
            for ring in rings_of_all_kinds(chance, many):
                wanted = [seam for seam in range(many) if parting(cut(ring, seam)) is not None]
                things.same_kind(self, things.unchanged(self, seams, ring), wanted)

    def test_told_from_another_card(self):
        for ring in itertools.chain(things.small_rows(5), long_rings()):
            many = len(ring)
            for start in range(0, many, 1 if many < 10 else 7):
                turned = sorted((seam - start) % many for seam in seams(ring))
                self.assertEqual(seams(cut(ring, start)), turned)

    def test_told_from_its_end(self):
        for ring in itertools.chain(things.small_rows(6), long_rings()):
            turned = sorted(-seam % len(ring) for seam in seams(ring))
            self.assertEqual(seams(ring[::-1]), turned)

    def test_a_told_list_is_the_askers_own(self):
        ring = (1, 2, 3, 4)
        told = seams(ring)
        told.append(99)
        told[0] = None
        self.assertEqual(seams(ring), [0, 1, 3])
        self.assertIsNot(seams(ring), seams(ring))

    def test_promptly(self):
        rings = list(long_rings())
        began = time.monotonic()
        for ring in rings:
            seams(ring)
        self.assertLess(time.monotonic() - began, 20)


if __name__ == "__main__":
    unittest.main()
