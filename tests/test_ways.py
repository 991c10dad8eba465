"""Tests of ways and nth: how many standings have a value, and which one is the how-many-th."""

import collections
import itertools
import math
import unittest

from beadframes.frames import judge, nth, span, value, ways
from tests.samples import (
    BREAKS_2, BREAKS_3, BREAKS_4, EQUAL_LAST, EQUAL_THREE, EQUAL_TWO, FAR_BEYOND, FIVE_ONE, FIVE_TWO, FULL,
    FULL_OF_TWO_DECKS, HUNDRED_FIGURES, MOST_SECONDS, MUCH_WORK, NO_MAKES, TEN_IN_A_ROW, THREE_DECKS, TWO, TWO_TWOS,
    beads, count, in_order, large_makes, largest, makes_to_try, middle, pushes, rods, seconds_taken,
    standings_by_value, work_allowed,
)

SMALL_MAKES = makes_to_try()
LARGE_MAKES = large_makes()


def ways_rod_by_rod(number, make):
    """How many standings have the value: what each rod leaves of it is whole units of the next."""
    left = {number: 1}
    for rod in rods(make):
        shown = collections.Counter(count(rod, push) for push in pushes(rod))
        units = collections.Counter()
        for rest, several in left.items():
            for less in range(rest % rod[0], min(rest, max(shown)) + 1, rod[0]):
                units[(rest - less) // rod[0]] += several * shown[less]
        left = units
    return left[0]


class Samples(unittest.TestCase):
    def test_they_are_makes(self):
        for make in [*SMALL_MAKES, *LARGE_MAKES, FULL, FULL_OF_TWO_DECKS]:
            self.assertEqual(judge(make), [0], make)


class Ways(unittest.TestCase):
    def has_ways(self, make, number, expected):
        self.assertEqual(ways(number, list(make)), [0, expected], (make, number))

    def test_known_values(self):
        self.has_ways(FIVE_ONE * 3, 407, 1)
        self.has_ways(FIVE_TWO, 4, 1)
        self.has_ways(FIVE_TWO, 5, 2)
        self.has_ways(FIVE_TWO, 10, 2)
        self.has_ways(FIVE_TWO * 2, 10, 3)
        self.has_ways(FIVE_TWO * 2, 50, 4)
        self.has_ways(FIVE_TWO * 2, 60, 5)
        self.has_ways(TEN_IN_A_ROW * 2, 10, 2)
        self.has_ways(TEN_IN_A_ROW * 2, 9, 1)

    def test_every_value_of_small_makes_against_a_trial_of_all_standings(self):
        for make in SMALL_MAKES:
            found = standings_by_value(make)
            counted = [ways(number, list(make)) for number in range(largest(make) + 20)]
            self.assertEqual(counted, [[0, len(found.get(number, []))] for number in range(largest(make) + 20)], make)
            self.assertEqual(sum(answer[1] for answer in counted), math.prod(n + 1 for n in beads(make)))

    def test_0_and_1_and_the_largest_value_that_a_standing_has(self):
        for make in [*SMALL_MAKES, *LARGE_MAKES]:
            self.has_ways(make, 0, 1)
            self.has_ways(make, 1, sum(count(make[:7], push) == 1 for push in pushes(make[:7])))
            self.has_ways(make, largest(make), 1)
            for more in (1, 2, largest(make), HUNDRED_FIGURES - largest(make)):
                self.has_ways(make, largest(make) + more, 0)

    def test_about_the_span(self):
        self.has_ways(FIVE_ONE * 3, 999, 1)
        self.has_ways(FIVE_ONE * 3, 1000, 0)
        self.has_ways(FIVE_TWO * 3, 999, 1)
        self.has_ways(FIVE_TWO * 3, 1000, 6)
        self.has_ways(FIVE_TWO * 3, 1001, 5)
        self.has_ways(TWO * 64, 2 ** 64 - 1, 1)
        self.has_ways(TWO * 64, 2 ** 64, 0)
        for make in LARGE_MAKES:
            for number in (span(make)[1] - 1, span(make)[1], span(make)[1] + 1, 2 * span(make)[1]):
                self.has_ways(make, number, ways_rod_by_rod(number, make))

    def test_a_value_between_that_no_standing_has(self):
        self.has_ways([4, 3, 1, 1, 5, 0, 0], 3, 1)
        self.has_ways([4, 3, 1, 1, 5, 0, 0], 4, 0)
        self.has_ways([4, 3, 1, 1, 5, 0, 0], 5, 1)
        self.has_ways([2, 1, 1, 1, 63, 0, 0], 62, 0)
        self.has_ways([2, 1, 1, 1, 63, 0, 0], 63, 1)
        gap = TWO * 63 + [2, 1, 1, 1, 63, 0, 0]
        self.has_ways(gap, 2 ** 64 - 1, 1)
        self.has_ways(gap, 2 ** 64, 0)
        self.has_ways(gap, 63 * 2 ** 63 - 1, 0)
        self.has_ways(gap, 63 * 2 ** 63, 1)

    def test_decks_of_the_same_worth_are_different_decks(self):
        self.has_ways(EQUAL_TWO, 2, 3)
        self.has_ways(EQUAL_TWO, 3, 3)
        self.has_ways(EQUAL_THREE, 3, 6)
        self.has_ways(EQUAL_LAST, 6, 3)
        self.has_ways([20, 15, 1, 15, 1, 15, 1], 15, 136)
        self.has_ways([20, 15, 1, 15, 1, 15, 1], 22, 192)
        self.has_ways([20, 15, 1, 15, 1, 15, 1] * 64, 15, 136)

    def test_two_beads_of_one_on_rods_of_ratio_2(self):
        # The hyperbinary ways: s(n) = s(n // 2), and s(n // 2 + 1) besides if n is odd, is how many n - 1 has.
        steps = [0, 1]
        while len(steps) < 400:
            half = len(steps) // 2
            steps.append(steps[half] + (steps[half + 1] if len(steps) % 2 == 1 else 0))
        for number in range(399):
            self.has_ways(TWO_TWOS * 64, number, steps[number + 1])
        # (2 ** n - (-1) ** n) / 3 has the n-th of Fibonacci's numbers there.
        older, newer = 0, 1
        for n in range(1, 65):
            self.has_ways(TWO_TWOS * 64, (2 ** n - (-1) ** n) // 3 - 1, newer)
            older, newer = newer, older + newer
        self.has_ways(TWO_TWOS * 64, (2 ** 64 - 1) // 3 - 1, 10610209857723)

    def test_values_of_many_rods_and_of_dozens_of_figures(self):
        for make in [*LARGE_MAKES, FULL * 64, FULL_OF_TWO_DECKS * 64]:
            for number in (largest(make) // 2, largest(make) // 3 + 7, middle(make)):
                self.has_ways(make, number, ways_rod_by_rod(number, make))
        self.assertGreater(ways(middle(FULL * 64), FULL * 64)[1], 10 ** 99)

    def test_what_is_pushed_and_what_is_left_stand_in_as_many_ways(self):
        for make in LARGE_MAKES:
            for part in range(1, 30):
                number = largest(make) * part // 31
                self.assertEqual(ways(number, list(make)), ways(largest(make) - number, list(make)))

    def test_a_list_that_is_no_make(self):
        for make, refusal in NO_MAKES:
            for number in (0, 1, 10 ** 99, HUNDRED_FIGURES):
                self.assertEqual(ways(number, list(make)), refusal)
        for rule, rod in ((2, BREAKS_2), (3, BREAKS_3), (4, BREAKS_4)):
            self.assertEqual(ways(HUNDRED_FIGURES, FIVE_ONE + rod), [-5, rule, 1])


class Nth(unittest.TestCase):
    def is_nth(self, make, number, k, standing):
        self.assertEqual(nth(number, k, list(make)), [0] + standing, (make, number, k))

    def none_such(self, make, number, k):
        self.assertEqual(nth(number, k, list(make)), [-2], (make, number, k))

    def are_all(self, make, number, several):
        """These are all the value's standings, in their order."""
        for k, standing in enumerate(several):
            self.is_nth(make, number, k, standing)
        for k in (len(several), len(several) + 1, 10 ** 99, HUNDRED_FIGURES):
            self.none_such(make, number, k)

    def test_every_k_of_every_value_of_small_makes_against_a_trial_of_all_standings(self):
        for make in SMALL_MAKES:
            found = standings_by_value(make)
            for number in range(largest(make) + 5):
                self.are_all(make, number, found.get(number, []))

    def test_the_leftmost_rod_that_differs_decides(self):
        self.are_all(FIVE_TWO * 2, 60, [
            [0, 2, 0, 0, 1, 0], [5, 1, 0, 0, 1, 0], [0, 0, 0, 1, 1, 0], [0, 2, 0, 5, 0, 0], [5, 1, 0, 5, 0, 0],
        ])
        self.are_all(TEN_IN_A_ROW * 3, 100, [
            [10, 0, 0, 9, 0, 0, 0, 0, 0], [0, 0, 0, 10, 0, 0, 0, 0, 0], [0, 0, 0, 0, 0, 0, 1, 0, 0],
        ])
        # A rod to the left that differs goes before deck 0 of a rod to the right.
        self.are_all(EQUAL_TWO + TWO, 4, [[1, 3, 0, 0, 0, 0], [2, 2, 0, 0, 0, 0], [0, 0, 0, 1, 0, 0]])

    def test_on_one_rod_the_first_deck_that_differs_decides(self):
        self.are_all(EQUAL_THREE, 2, [[0, 0, 2], [0, 1, 1], [0, 2, 0], [1, 0, 1], [1, 1, 0]])
        self.are_all(EQUAL_THREE, 6, [[1, 2, 3]])
        self.are_all(EQUAL_LAST, 6, [[0, 0, 2], [0, 1, 1], [0, 2, 0]])
        self.are_all([10, 1, 5, 5, 1, 0, 0], 5, [[0, 5, 0], [1, 0, 0]])
        self.are_all(FIVE_TWO, 5, [[0, 1, 0], [5, 0, 0]])

    def test_a_value_that_no_standing_has(self):
        for make, number in (
            (TWO, 2), ([4, 3, 1, 1, 5, 0, 0], 4), (FIVE_ONE * 3, 1000), (FIVE_TWO, 16), (TWO * 64, 2 ** 64),
            (THREE_DECKS * 64, 20 ** 64), (FAR_BEYOND[1], 60), (FULL * 64, HUNDRED_FIGURES),
        ):
            self.are_all(make, number, [])

    def test_64_rods_of_which_each_standing_is_known(self):
        # What stands on rod 63 as one bead stands as two on rod k, and as one on each rod between them.
        self.are_all(TWO_TWOS * 64, 2 ** 63, [
            [0, 0, 0] * k + [2, 0, 0] + [1, 0, 0] * (62 - k) + [0, 0, 0] for k in range(63)
        ] + [[0, 0, 0] * 63 + [1, 0, 0]])

    def test_many_rods_and_very_many_standings(self):
        for make in [*LARGE_MAKES, FULL * 64, FULL_OF_TWO_DECKS * 64]:
            for number in (middle(make), largest(make) // 3 + 7, largest(make)):
                several = ways(number, list(make))[1]
                # A k has a hundred figures at most, there may be more standings.
                last = min(several - 1, HUNDRED_FIGURES)
                chosen = sorted({0, 1, 2, last // 3, last // 2, last // 2 + 1, last - 2, last - 1, last})
                found = [nth(number, k, list(make)) for k in chosen if 0 <= k < several]
                for answer in found:
                    self.assertEqual(value(list(make), answer[1:]), [0, number])
                    self.assertEqual(len(answer), 1 + len(beads(make)))
                for earlier, later in itertools.pairwise(found):
                    self.assertLess(in_order(earlier[1:]), in_order(later[1:]))
                if several <= HUNDRED_FIGURES:
                    self.none_such(make, number, several)
                    self.none_such(make, number, HUNDRED_FIGURES)

    def test_one_behind_the_other_they_come_in_order(self):
        for make in (EQUAL_THREE * 64, FAR_BEYOND[0] * 64, LARGE_MAKES[-1]):
            number = middle(make)
            for start in (0, 10 ** 10, ways(number, make)[1] - 40):
                several = [nth(number, start + more, make)[1:] for more in range(40)]
                self.assertEqual(several, sorted(several, key=in_order))
                self.assertEqual(len({tuple(standing) for standing in several}), 40)

    def test_a_list_that_is_no_make(self):
        for make, refusal in NO_MAKES:
            for number, k in itertools.product((0, 1, HUNDRED_FIGURES), repeat=2):
                self.assertEqual(nth(number, k, list(make)), refusal)
        for rule, rod in ((2, BREAKS_2), (3, BREAKS_3), (4, BREAKS_4)):
            self.assertEqual(nth(HUNDRED_FIGURES, HUNDRED_FIGURES, FIVE_ONE + rod), [-5, rule, 1])


class AsMuchWorkAsIsAllowed(unittest.TestCase):
    def test_ways(self):
        for rod, p, w in ((FULL, 4096, 255), (FULL_OF_TWO_DECKS, 256, 255), ([2, 1, 1, 4, 63, 0, 0], 10, 253)):
            make = rod * 64
            number = middle(make)
            calls = [(ways, number + more, make) for more in range(work_allowed(64 * p * w))]
            self.assertLess(seconds_taken(calls), MOST_SECONDS)

    def test_nth(self):
        for rod, r, p, w in MUCH_WORK:
            make = rod * r
            several = ways(middle(make), make)[1]
            calls = [(nth, middle(make), k % several, make) for k in range(work_allowed(r * r * p * p * w))]
            self.assertLess(seconds_taken(calls), MOST_SECONDS)


if __name__ == "__main__":
    unittest.main()
