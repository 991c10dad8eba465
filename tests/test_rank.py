"""Tests of rank: a standing's number among those of its value."""

import collections
import random
import unittest

from beadframes.frames import nth, rank, value, ways
from tests.samples import (
    BREAKS_2, BREAKS_3, BREAKS_4, EQUAL_THREE, FIVE_ONE, FIVE_TWO, FULL, HUNDRED_FIGURES, LARGEST, MOST_SECONDS,
    MUCH_WORK, NO_MAKES, TEN_IN_A_ROW, TWO, TWO_TWOS, beads, count, large_makes, largest, makes_to_try, middle, pushes,
    rods, seconds_taken, standings_by_value, value_by_words, work_allowed,
)

SMALL_MAKES = makes_to_try()
LARGE_MAKES = large_makes()


def some_standings(make, how_many, seed):
    """Nothing pushed, all pushed, half of each deck pushed, and some more standings, the same ones each time."""
    chance = random.Random(seed)
    most = beads(make)
    found = [[0] * len(most), most, [number // 2 for number in most]]
    while len(found) < how_many:
        found.append([chance.randint(0, number) for number in most])
    return found


def rank_rod_by_rod(make, standing):
    """How many standings of the standing's value come before it, told from rod 0 up: a rod further left overrules."""
    left = {(value_by_words(make, standing), False): 1}
    for place, rod in enumerate(rods(make)):
        pushed = tuple(standing[3 * place:3 * place + 3])
        shown = [(push, count(rod, push)) for push in pushes(rod)]
        units = collections.Counter()
        for (rest, is_before), several in left.items():
            for push, less in shown:
                if less <= rest and (rest - less) % rod[0] == 0:
                    units[(rest - less) // rod[0], push < pushed or (push == pushed and is_before)] += several
        left = units
    return left[0, True]


class Rank(unittest.TestCase):
    def has_rank(self, make, standing, expected):
        self.assertEqual(rank(list(make), list(standing)), [0, expected], (make, standing))

    def test_known_standings(self):
        self.has_rank(FIVE_ONE * 3, [2, 1, 0, 0, 0, 0, 4, 0, 0], 0)
        self.has_rank(FIVE_TWO, [0, 1, 0], 0)
        self.has_rank(FIVE_TWO, [5, 0, 0], 1)
        self.has_rank(FIVE_TWO * 2, [0, 2, 0, 0, 1, 0], 0)
        self.has_rank(FIVE_TWO * 2, [5, 1, 0, 0, 1, 0], 1)
        self.has_rank(FIVE_TWO * 2, [0, 0, 0, 1, 1, 0], 2)
        self.has_rank(FIVE_TWO * 2, [0, 2, 0, 5, 0, 0], 3)
        self.has_rank(FIVE_TWO * 2, [5, 1, 0, 5, 0, 0], 4)
        self.has_rank(TEN_IN_A_ROW * 3, [0, 0, 0, 0, 0, 0, 1, 0, 0], 2)

    def test_decks_of_the_same_worth_are_different_decks(self):
        for number, standing in enumerate(([0, 0, 2], [0, 1, 1], [0, 2, 0], [1, 0, 1], [1, 1, 0])):
            self.has_rank(EQUAL_THREE, standing, number)

    def test_every_standing_of_small_makes_against_a_trial_of_all(self):
        for make in SMALL_MAKES:
            for several in standings_by_value(make).values():
                for number, standing in enumerate(several):
                    self.has_rank(make, standing, number)

    def test_nothing_pushed_and_all_pushed(self):
        for make in [*SMALL_MAKES, *LARGE_MAKES, FULL * 64]:
            self.has_rank(make, [0] * len(beads(make)), 0)
            self.has_rank(make, beads(make), 0)

    def test_64_rods_of_which_each_standing_is_known(self):
        for k in range(63):
            self.has_rank(TWO_TWOS * 64, [0, 0, 0] * k + [2, 0, 0] + [1, 0, 0] * (62 - k) + [0, 0, 0], k)
        self.has_rank(TWO_TWOS * 64, [0, 0, 0] * 63 + [1, 0, 0], 63)

    def test_many_rods_against_a_count_rod_by_rod(self):
        for make in LARGE_MAKES:
            for standing in some_standings(make, 5, 1):
                self.has_rank(make, standing, rank_rod_by_rod(make, standing))

    def test_the_first_and_the_last_of_a_value_and_some_between(self):
        for make in LARGE_MAKES:
            for number in (middle(make), largest(make) // 3 + 7):
                several = ways(number, make)[1]
                last = min(several - 1, HUNDRED_FIGURES)
                for k in sorted({0, 1, last // 7, last // 2, last - 1, last}):
                    if 0 <= k < several:
                        self.has_rank(make, nth(number, k, make)[1:], k)

    def test_a_standing_s_number_leads_back_to_it(self):
        for make in [*LARGE_MAKES, FULL * 30]:
            for standing in some_standings(make, 8, 2):
                answer = rank(list(make), list(standing))
                self.assertEqual(answer[0], 0)
                self.assertEqual(nth(value(make, standing)[1], answer[1], make), [0] + standing)

    def test_faults_of_the_standing(self):
        for make in (FIVE_ONE * 2, FIVE_TWO * 3, TWO * 64):
            size = len(beads(make))
            for length in (0, 1, 2, size - 1, size + 1, 300):
                self.assertEqual(rank(list(make), [0] * length), [-5, 5, length])
                self.assertEqual(rank(list(make), [LARGEST] * length), [-5, 5, length])
            for at, most in enumerate(beads(make)):
                for pushed in (most + 1, LARGEST):
                    self.assertEqual(rank(list(make), [0] * at + [pushed] + [0] * (size - at - 1)), [-5, 5, at])
                    self.assertEqual(rank(list(make), beads(make)[:at] + [pushed] * (size - at)), [-5, 5, at])

    def test_a_fault_of_the_make_is_told_before_the_standing_s(self):
        for make, refusal in NO_MAKES:
            for standing in ([], [0, 0, 0], [0] * 192, beads(make)[:300], [LARGEST] * 3, [LARGEST] * 300):
                self.assertEqual(rank(list(make), list(standing)), refusal)
        for rule, rod in ((2, BREAKS_2), (3, BREAKS_3), (4, BREAKS_4)):
            self.assertEqual(rank(FIVE_ONE + rod, [5, 0, 0]), [-5, rule, 1])
            self.assertEqual(rank(FIVE_ONE + rod, [5, 0, 0, 0, 0, 0]), [-5, rule, 1])

    def test_as_much_work_as_is_allowed(self):
        for rod, r, p, w in MUCH_WORK:
            make = rod * r
            several = some_standings(make, max(work_allowed(r * r * p * p * w), 3), 4)
            calls = [(rank, make, standing) for standing in several]
            self.assertLess(seconds_taken(calls), MOST_SECONDS)


if __name__ == "__main__":
    unittest.main()
