"""What several tests need: rods, makes, guarded lists, and the document's words by plain trial."""

import itertools
import math
import random
import time

FIVE_ONE = [10, 4, 1, 1, 5, 0, 0]
FIVE_TWO = [10, 5, 1, 2, 5, 0, 0]
TEN_IN_A_ROW = [10, 10, 1, 0, 0, 0, 0]
QUARTERS = [4, 3, 1, 0, 0, 0, 0]
THREE_DECKS = [20, 4, 1, 1, 5, 1, 10]
TWO = [2, 1, 1, 0, 0, 0, 0]
TWO_TWOS = [2, 2, 1, 0, 0, 0, 0]
GOOD_RODS = (FIVE_ONE, FIVE_TWO, TEN_IN_A_ROW, QUARTERS, THREE_DECKS)

# Decks of equal worth, and decks whose worths go down, up, or neither way.
EQUAL_TWO = [4, 2, 1, 3, 1, 0, 0]
EQUAL_THREE = [6, 1, 1, 2, 1, 3, 1]
EQUAL_LAST = [9, 2, 1, 2, 3, 2, 3]
EQUAL_OUTER = [10, 2, 3, 4, 1, 2, 3]
WORTHS_DOWN = [18, 1, 10, 1, 5, 4, 1]
WORTHS_MIXED = [20, 2, 5, 4, 1, 1, 10]
# 6 is two of 3, but the largest worth first gives 4 and two of 1; 1, 3, 4 in each order.
NOT_GREEDY = ([9, 2, 1, 2, 3, 1, 4], [9, 1, 4, 2, 3, 2, 1], [9, 2, 3, 1, 4, 2, 1])
# 4 is one of 1 and one of 3, or two of 2: as many beads.
AS_MANY = ([6, 1, 1, 2, 2, 1, 3], [6, 2, 2, 1, 1, 1, 3], [6, 1, 3, 2, 2, 1, 1], [6, 1, 3, 1, 1, 2, 2])

CHOICES = (
    EQUAL_TWO, EQUAL_THREE, EQUAL_LAST, EQUAL_OUTER, WORTHS_DOWN, WORTHS_MIXED, *NOT_GREEDY, *AS_MANY,
)
FULL_RODS = ([20, 15, 1, 15, 1, 15, 1], [20, 15, 1, 15, 16, 0, 0], [20, 15, 2, 15, 3, 15, 1])

BREAKS_2 = [21, 20, 1, 0, 0, 0, 0]
BREAKS_3 = [4, 4, 1, 4, 63, 0, 0]
BREAKS_4 = [10, 3, 1, 1, 5, 0, 0]

# Rods whose counts reach far beyond their ratio.
FAR_BEYOND = ([2, 15, 1, 0, 0, 0, 0], [2, 1, 1, 1, 63, 1, 63], [2, 3, 1, 2, 7, 1, 20], [3, 2, 1, 2, 2, 2, 50])

# Rods worth 255 together, and one of them can be pushed in 4096 ways.
FULL = [2, 15, 1, 15, 15, 15, 1]
FULL_OF_TWO_DECKS = [2, 15, 1, 15, 16, 0, 0]
# Calls of nth, rank and fewest that are as much work as is allowed, r r p p w in all, or that may come 200 at once:
# a rod, how many of it (r), in how many ways it can be pushed (p), what it is worth (w).
MUCH_WORK = (
    ([2, 1, 1, 5, 50, 0, 0], 64, 12, 251), ([2, 1, 1, 1, 1, 1, 1], 64, 8, 3), ([2, 1, 1, 1, 63, 0, 0], 64, 4, 64),
    (FULL_OF_TWO_DECKS, 3, 256, 255), ([20, 12, 1, 8, 12, 6, 12], 1, 819, 180), (FULL_OF_TWO_DECKS, 1, 256, 255),
)
MOST_WORK = 200_000_000
MOST_SECONDS = 20

LARGEST = 4294967295
HUNDRED_FIGURES = 10 ** 100 - 1

# A list that is no make, and what its refusal is.
NO_MAKES = (
    ([], [-5, 1, 0]),
    (QUARTERS[:6], [-5, 1, 0]),
    (QUARTERS * 65, [-5, 1, 0]),
    ([LARGEST] * 700, [-5, 1, 0]),
    (BREAKS_2, [-5, 2, 0]),
    (BREAKS_3, [-5, 3, 0]),
    (BREAKS_4, [-5, 4, 0]),
    (QUARTERS + BREAKS_2, [-5, 2, 1]),
    (QUARTERS * 63 + BREAKS_4, [-5, 4, 63]),
    ([LARGEST] * 448, [-5, 2, 0]),
)


class GuardedList(list):
    """A list that refuses every change."""

    def refuse(self, *args, **kwargs):
        raise AssertionError("the list handed in is changed")

    append = extend = insert = pop = remove = clear = refuse
    reverse = sort = refuse
    __setitem__ = __delitem__ = __iadd__ = __imul__ = refuse


def rods(make):
    return [make[start:start + 7] for start in range(0, len(make), 7)]


def beads(make):
    """How many beads each deck has: the standing with all of them pushed."""
    return [number for rod in rods(make) for number in (rod[1], rod[3], rod[5])]


def places(make):
    """Each rod's place: the product of the ratios to the right of it."""
    ratios = make[::7]
    return [math.prod(ratios[:rod]) for rod in range(len(ratios))]


def pushes(rod):
    """All ways to push the rod's beads."""
    return list(itertools.product(range(rod[1] + 1), range(rod[3] + 1), range(rod[5] + 1)))


def count(rod, push):
    return push[0] * rod[2] + push[1] * rod[4] + push[2] * rod[6]


def counts(make, standing):
    return [count(rod, standing[3 * place:3 * place + 3]) for place, rod in enumerate(rods(make))]


def standings(make):
    """All standings on a make."""
    for several in itertools.product(*[pushes(rod) for rod in rods(make)]):
        yield [number for push in several for number in push]


def in_order(standing):
    """What standings are sorted by: the leftmost rod first, on each rod deck 0 first."""
    return [standing[start:start + 3] for start in range(len(standing) - 3, -1, -3)]


def standings_by_value(make):
    """Each value that the make's standings have, and its standings in their order."""
    found = {}
    for standing in sorted(standings(make), key=in_order):
        found.setdefault(value_by_words(make, standing), []).append(standing)
    return found


def work_allowed(work):
    """How many calls of so much work one line has at most."""
    return min(200, MOST_WORK // work)


def seconds_taken(calls):
    """How long it takes to run these calls, each a function and what is handed in."""
    start = time.monotonic()
    for call in calls:
        call[0](*call[1:])
    return time.monotonic() - start


def value_by_words(make, standing):
    return sum(number * place for number, place in zip(counts(make, standing), places(make)))


def largest(make):
    """The largest value that a standing of the make has."""
    return value_by_words(make, beads(make))


def middle(make):
    """A value of many standings: that with half of each deck pushed."""
    return value_by_words(make, [number // 2 for number in beads(make)])


def rod_rule(rod):
    """The first rule that a rod breaks, told by pushing its beads in every way, or 0."""
    ratio = rod[0]
    decks = [(rod[1], rod[2]), (rod[3], rod[4]), (rod[5], rod[6])]
    rule_2 = (
        decks[0][0] == 0
        or (decks[2][0] > 0 and decks[1][0] == 0)
        or any((number > 0) != (worth > 0) for number, worth in decks)
        or ratio not in range(2, 21)
        or any(number > 15 or worth > 63 for number, worth in decks)
    )
    if rule_2:
        return 2
    if sum(number * worth for number, worth in decks) > 255:
        return 3
    if not set(range(ratio)) <= {count(rod, push) for push in pushes(rod)}:
        return 4
    return 0


def some_rods(how_many, seed, most_beads=15, most_worth=63, most_ratio=20):
    """Sound rods of one, two and three decks, the same ones each time."""
    chance = random.Random(seed)
    found = []
    while len(found) < how_many:
        rod = [chance.randint(2, most_ratio)]
        decks = chance.randint(1, 3)
        for deck in range(3):
            # Low worths are likelier, so that the digits can be pushed.
            worth = chance.choice((1, 1, 2, 3, 5, chance.randint(1, most_worth)))
            rod += [chance.randint(1, most_beads), worth] if deck < decks else [0, 0]
        if rod_rule(rod) == 0:
            found.append(rod)
    return found


def makes_to_try():
    """Makes of few enough standings that all of these can be tried: of one rod, of several, of mixed ratios."""
    makes = [
        *GOOD_RODS, *CHOICES, *FAR_BEYOND, TWO * 6, QUARTERS * 4, FIVE_TWO * 2, THREE_DECKS * 2, FIVE_ONE + THREE_DECKS,
        TWO_TWOS * 6, [2, 1, 1, 1, 1, 1, 1] * 3, [20, 4, 4, 3, 1, 3, 2] + TWO * 3, EQUAL_TWO * 3,
        EQUAL_THREE + EQUAL_LAST, FAR_BEYOND[0] * 2 + TWO, FAR_BEYOND[1] * 3, FAR_BEYOND[2] + FAR_BEYOND[3],
        FAR_BEYOND[3] + AS_MANY[2] + TWO, sum(AS_MANY[:3], []), NOT_GREEDY[0] + NOT_GREEDY[1],
        WORTHS_DOWN + WORTHS_MIXED,
    ]
    for seed, size in enumerate((1, 1, 1, 2, 2, 2, 2, 3, 3, 3, 4)):
        makes.append(sum(some_rods(size, 20 + seed, most_beads=5 - size, most_worth=30), []))
    return makes


def large_makes():
    """Makes of many rods, most of 64, on which most values stand in very many ways."""
    return [
        FIVE_ONE * 3, FIVE_TWO * 13, TWO * 64, TWO_TWOS * 64, FIVE_TWO * 64, THREE_DECKS * 64,
        (QUARTERS + FIVE_TWO) * 32, FAR_BEYOND[0] * 64, FAR_BEYOND[1] * 64, EQUAL_THREE * 64, sum(CHOICES, []),
        *[sum(some_rods(64, seed), []) for seed in (7, 8)],
    ]
