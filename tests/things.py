"""What the tests share: rows to ask about, things of all kinds, and answers found the long way."""

import copy
import functools
import itertools
import random

GREATEST = 10 ** 9

# Far apart, close together and at both ends of what a card can have.
NUMBERS = (0, 1, 2, 50, 7000, GREATEST - 1, GREATEST)


def nested(wrap, deep):
    thing = wrap(())
    for _ in range(deep - 1):
        thing = wrap((thing,))
    return thing


# Neither rows, partings nor places of any row.
THINGS = (
    None, True, False, 0, 1, -1, 7, 10 ** 40 - 1, -(10 ** 40 - 1),
    "", "up", "down", "either", "upup", " ~", "x" * 200, "0123", "(0, 1, 2, 3)",
    [], [None], [1], [1, 2], [0, 1, 2, 3], [[1], [2]], ["up"], ["up", "down"], [(1, 2)],
    (), (None,), (True,), (False,), ("",), ("1",), ([],), ((),), ((1,),), ((1, 2), (3, 4)), ([1], [2]),
    (1, None), (1, "2"), (1, True), (0, False), (2, [3]), (4, (5,)), (None, True, 3, "x", [], ()),
    (-1,), (1, -1), (10 ** 40 - 1,), (GREATEST + 1,),
    nested(list, 10), nested(tuple, 10), [nested(tuple, 9)], (nested(list, 9),),
)

# Of more cards than one, wrong in one of them only.
NO_ROWS = (
    tuple(range(41)), tuple(range(60)), (3, 3), (5, 1, 5), (0, 1, 2, 0), tuple(range(39)) + (0,),
    (-1, 2, 3), (3, 2, -1), (0, GREATEST + 1), (GREATEST + 1, 4), (0, 2, True), (False, 1, 2), (True, False),
    [3, 1, 2], (3, 1, "2"), (3, None, 2), (3, [1], 2), ((3, 1, 2),), ([3, 1, 2],), (3, (1,), 2),
)


def ranked(cards):
    order = sorted(cards)
    return tuple(order.index(card) for card in cards)


def is_split(row, given):
    ups = [card for card, side in zip(row, given) if side == "up"]
    downs = [card for card, side in zip(row, given) if side == "down"]
    return ups == sorted(ups) and downs == sorted(downs, reverse=True)


def partings_of(row):
    """All partings, looked for among all ways to give sides; "down" is ahead of "up", so in order."""
    ways = itertools.product(("down", "up"), repeat=len(row))
    return [given for given in ways if is_split(row, given)]


def found_partings(row):
    """All partings, in order: what does not part a beginning of the row does not part the row."""
    found = [()]
    for many in range(1, len(row) + 1):
        longer = [given + (side,) for given in found for side in ("down", "up")]
        found = [given for given in longer if is_split(row[:many], given)]
    return found


@functools.lru_cache(None)
def is_woven_pattern(ranks):
    return bool(found_partings(ranks))


def is_woven(row):
    return is_woven_pattern(ranked(row))


def stayed(row, lot):
    return tuple(card for place, card in enumerate(row) if place not in lot)


def all_lots(row):
    """All lots of places, the fewest first, and of as few the first one first."""
    for many in range(len(row) + 1):
        yield from itertools.combinations(range(len(row)), many)


def lots_of(row):
    """All lots that can be put elsewhere, the first of the fewest first."""
    return [lot for lot in all_lots(row) if is_woven(stayed(row, lot))]


def greatest_stay(row, worths):
    """The greatest worth that can stay, found from the end of the row on."""
    @functools.lru_cache(None)
    def best(place, last_up, last_down):
        if place == len(row):
            return 0
        card = row[place]
        ways = [best(place + 1, last_up, last_down)]
        if card > last_up:
            ways.append(worths[place] + best(place + 1, card, last_down))
        if card < last_down:
            ways.append(worths[place] + best(place + 1, last_up, card))
        return max(ways)
    return best(0, -1, GREATEST + 1)


def first_fewest(row):
    """The fewest, and the first lot of as few, of long rows.

    Worth are most of all how many cards stay, then how late they are: the
    lot that is put elsewhere is the first where those that stay make up, with
    the first place as the highest figure, the least number in twos.
    """
    many = len(row)
    most = 2 ** (many + 1)
    figures = [2 ** (many - 1 - place) for place in range(many)]
    best = greatest_stay(row, tuple(most - figure for figure in figures))
    stay = -(-best // most)
    number = stay * most - best
    lot = tuple(place for place in range(many) if not number & figures[place])
    return many - stay, lot


def sides_of(partings):
    if not partings:
        return None
    kinds = [sorted(set(column)) for column in zip(*partings)]
    return tuple(kind[0] if len(kind) == 1 else "either" for kind in kinds)


def do_bar(row, places):
    return ranked([row[place] for place in places]) in ((1, 0, 3, 2), (2, 3, 0, 1))


def fours_of(row):
    return [places for places in itertools.combinations(range(len(row)), 4) if do_bar(row, places)]


def small_rows(most):
    for many in range(1, most + 1):
        yield from itertools.permutations(NUMBERS[:many - 1] + NUMBERS[-1:])


def drawn_numbers(chance, many):
    return chance.sample(range(GREATEST + 1), many)


def drawn_row(chance, many):
    return tuple(drawn_numbers(chance, many))


def drawn_woven(chance, many):
    """A woven row and a parting of it."""
    up = chance.randint(0, many)
    numbers = drawn_numbers(chance, many)
    ups, downs = sorted(numbers[:up]), sorted(numbers[up:], reverse=True)
    given = ["up"] * up + ["down"] * (many - up)
    chance.shuffle(given)
    row = tuple(ups.pop(0) if side == "up" else downs.pop(0) for side in given)
    return row, tuple(given)


def nearly_woven(chance, many):
    """A woven row in which two cards have changed places."""
    row = list(drawn_woven(chance, many)[0])
    one, other = chance.sample(range(many), 2)
    row[one], row[other] = row[other], row[one]
    return tuple(row)


def put_anew(chance, many, few):
    """A woven row of which so few cards have been put elsewhere."""
    row = list(drawn_woven(chance, many)[0])
    for _ in range(few):
        card = row.pop(chance.randrange(len(row)))
        row.insert(chance.randint(0, len(row)), card)
    return tuple(row)


def drawn_rows(seed, rounds, least, most):
    chance = random.Random(seed)
    for _ in range(rounds):
        many = chance.randint(least, most)
        yield drawn_woven(chance, many)[0]
        yield nearly_woven(chance, many)
        yield drawn_row(chance, many)


def outward(many):
    """Cards by turns from the middle out, and a parting of them."""
    half = many // 2
    row = tuple(card for step in range(half) for card in (half + step, half - 1 - step))
    return row, ("up", "down") * half


def long_woven_rows():
    """Woven rows of 40 cards, each with a parting."""
    yield tuple(range(40)), ("up",) * 40
    yield tuple(range(GREATEST, GREATEST - 40, -1)), ("down",) * 40
    row, given = outward(40)
    yield row, given
    yield row[::-1], ("up", "down") * 20
    chance = random.Random(40)
    for _ in range(12):
        yield drawn_woven(chance, 40)


def long_bad_rows():
    """Rows of 40 cards that are not woven."""
    chance = random.Random(41)
    for _ in range(3):
        yield drawn_row(chance, 40)
    # Only the last four bar, so all others are looked at ahead of them.
    yield tuple(range(36)) + (37, 36, 39, 38)
    yield tuple(range(40, 4, -1)) + (2, 3, 0, 1)


def changed(row, given):
    """All partings of a row, from one: any other one changes at most one card of each side."""
    ups = [None] + [place for place, side in enumerate(given) if side == "up"]
    downs = [None] + [place for place, side in enumerate(given) if side == "down"]
    found = []
    for up, down in itertools.product(ups, downs):
        other = list(given)
        if up is not None:
            other[up] = "down"
        if down is not None:
            other[down] = "up"
        if is_split(row, other):
            found.append(tuple(other))
    return sorted(found)


def unchanged(test, ask, *handed):
    """Ask, see that nothing handed in has changed by it, and return the answer."""
    before = copy.deepcopy(handed)
    answer = ask(*handed)
    test.assertEqual(repr(handed), repr(before))
    return answer


def same_kind(test, answer, wanted):
    """See that the answer is the wanted one, and a truth where that is one."""
    test.assertEqual(answer, wanted)
    test.assertIs(type(answer), type(wanted))
