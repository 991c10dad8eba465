"""Tests of fewest: of a value's standings with the fewest beads the first in order."""

import unittest

from beadframes.frames import fewest, formed, show, span, value, ways
from tests.samples import (
    AS_MANY, BREAKS_2, BREAKS_3, BREAKS_4, CHOICES, EQUAL_LAST, EQUAL_OUTER, EQUAL_THREE, EQUAL_TWO, FAR_BEYOND,
    FIVE_ONE, FIVE_TWO, HUNDRED_FIGURES, MOST_SECONDS, MUCH_WORK, NO_MAKES, NOT_GREEDY, QUARTERS, TEN_IN_A_ROW,
    THREE_DECKS, TWO, TWO_TWOS, WORTHS_DOWN, WORTHS_MIXED, beads, count, in_order, large_makes, largest, makes_to_try,
    middle, pushes, rods, seconds_taken, some_rods, standings_by_value, work_allowed,
)

SMALL_MAKES = makes_to_try()
LARGE_MAKES = large_makes()
# A bead of the lower rod that is worth as much as one of the rod to the left, as two of them, or nearly two.
TENS_BELOW = [10, 4, 1, 1, 5, 2, 10]
TWENTY_BELOW = [10, 4, 1, 1, 5, 1, 20]
NEARLY_TWENTY_BELOW = [10, 4, 1, 1, 5, 1, 19]


def fewest_rod_by_rod(number, make):
    """The value's standing with the fewest beads, the first of these in order, told from rod 0 up, or None."""
    # For each rest the best of what is pushed so far: how many beads, and the pushes, the leftmost rod's first.
    best = {number: (0, [])}
    for rod in rods(make):
        shown = [(list(push), count(rod, push)) for push in pushes(rod)]
        further = {}
        for rest, (several, pushed) in best.items():
            for push, less in shown:
                if less <= rest and (rest - less) % rod[0] == 0:
                    units = (rest - less) // rod[0]
                    candidate = (several + sum(push), [push] + pushed)
                    if units not in further or candidate < further[units]:
                        further[units] = candidate
        best = further
    if 0 not in best:
        return None
    return [pushed for push in reversed(best[0][1]) for pushed in push]


class Fewest(unittest.TestCase):
    def is_fewest(self, make, number, standing):
        self.assertEqual(fewest(number, list(make)), [0] + standing, (make, number))

    def none_such(self, make, number):
        self.assertEqual(fewest(number, list(make)), [-2], (make, number))

    def test_known_values(self):
        self.is_fewest(FIVE_ONE * 3, 407, [2, 1, 0, 0, 0, 0, 4, 0, 0])
        self.is_fewest(FIVE_ONE * 3, 0, [0, 0, 0, 0, 0, 0, 0, 0, 0])
        self.is_fewest(FIVE_TWO * 2, 5, [0, 1, 0, 0, 0, 0])
        self.is_fewest(FIVE_TWO * 2, 10, [0, 0, 0, 1, 0, 0])
        self.is_fewest(THREE_DECKS * 2, 20, [0, 0, 0, 1, 0, 0])
        self.is_fewest(WORTHS_DOWN, 17, [1, 1, 2])
        self.is_fewest(WORTHS_MIXED, 15, [1, 0, 1])
        self.is_fewest(TEN_IN_A_ROW, 10, [10, 0, 0])

    def test_every_value_of_small_makes_against_a_trial_of_all_standings(self):
        for make in SMALL_MAKES:
            found = standings_by_value(make)
            for number in range(largest(make) + 20):
                if number in found:
                    self.is_fewest(make, number, min(found[number], key=lambda one: (sum(one), in_order(one))))
                else:
                    self.none_such(make, number)

    def test_a_count_at_its_ratio_or_above_where_that_saves_beads(self):
        self.is_fewest(TWENTY_BELOW * 2, 20, [0, 0, 1, 0, 0, 0])
        self.is_fewest(TWENTY_BELOW * 2, 30, [0, 0, 1, 1, 0, 0])
        self.is_fewest(TWENTY_BELOW * 2, 71, [1, 0, 1, 0, 1, 0])
        self.is_fewest(NEARLY_TWENTY_BELOW * 2, 19, [0, 0, 1, 0, 0, 0])
        self.is_fewest(NEARLY_TWENTY_BELOW * 2, 69, [0, 0, 1, 0, 1, 0])
        self.is_fewest(NEARLY_TWENTY_BELOW * 2, 18, [3, 1, 0, 1, 0, 0])
        self.is_fewest(FAR_BEYOND[1] * 3, 63, [0, 0, 1, 0, 0, 0, 0, 0, 0])
        # One bead on rod 0 instead of six beads of 1 on as many rods.
        self.is_fewest([2, 1, 1, 1, 63, 0, 0] + TWO * 63, 63, [0, 1, 0] + [0, 0, 0] * 63)
        self.assertEqual(show(19, NEARLY_TWENTY_BELOW * 2), [0, 4, 1, 0, 1, 0, 0])

    def test_ties_between_rods_leave_the_leftmost_with_fewer_beads(self):
        self.is_fewest(TENS_BELOW * 2, 10, [0, 0, 1, 0, 0, 0])
        self.is_fewest(TENS_BELOW * 2, 20, [0, 0, 2, 0, 0, 0])
        self.is_fewest(TENS_BELOW * 2, 30, [0, 0, 2, 1, 0, 0])
        self.is_fewest(NEARLY_TWENTY_BELOW * 2, 20, [1, 0, 1, 0, 0, 0])
        self.is_fewest(TENS_BELOW * 3, 100, [0, 0, 0, 0, 0, 1, 0, 0, 0])
        self.is_fewest([2, 2, 1, 1, 2, 0, 0] * 3, 4, [0, 0, 0, 0, 1, 0, 0, 0, 0])
        # All of it stands on rod 62 as well as on rod 63.
        self.is_fewest([2, 2, 1, 1, 2, 0, 0] * 64, 2 ** 63, [0, 0, 0] * 62 + [0, 1, 0, 0, 0, 0])

    def test_ties_within_a_rod_leave_its_first_deck_with_fewer_beads(self):
        self.is_fewest(EQUAL_TWO, 1, [0, 1, 0])
        self.is_fewest(EQUAL_TWO, 4, [1, 3, 0])
        self.is_fewest(EQUAL_THREE, 2, [0, 0, 2])
        self.is_fewest(EQUAL_THREE, 4, [0, 1, 3])
        self.is_fewest(EQUAL_LAST, 6, [0, 0, 2])
        self.is_fewest(EQUAL_OUTER, 3, [0, 0, 1])
        self.is_fewest(AS_MANY[0], 4, [0, 2, 0])
        self.is_fewest(AS_MANY[1], 4, [0, 1, 1])
        self.is_fewest(AS_MANY[2], 4, [0, 2, 0])
        self.is_fewest(AS_MANY[3], 4, [0, 0, 2])

    def test_the_largest_worth_first_would_miss_it(self):
        for rod, standing in zip(NOT_GREEDY, ([0, 2, 0], [0, 2, 0], [2, 0, 0])):
            self.is_fewest(rod, 6, standing)
            self.is_fewest(rod * 64, 6, standing + [0, 0, 0] * 63)

    def test_at_and_above_the_span(self):
        self.is_fewest(FIVE_TWO, 10, [0, 2, 0])
        self.is_fewest(FIVE_TWO, 14, [4, 2, 0])
        self.is_fewest(FIVE_TWO, 15, [5, 2, 0])
        self.none_such(FIVE_TWO, 16)
        self.is_fewest(FIVE_TWO * 3, 1000, [0, 0, 0, 0, 0, 0, 0, 2, 0])
        self.is_fewest(FAR_BEYOND[1], 126, [0, 1, 1])
        self.is_fewest(TWO_TWOS * 64, 2 ** 64, [0, 0, 0] * 63 + [2, 0, 0])
        self.is_fewest(TWO_TWOS * 64, 2 ** 65 - 2, [2, 0, 0] * 64)

    def test_a_value_that_no_standing_has(self):
        self.none_such([4, 3, 1, 1, 5, 0, 0], 4)
        self.none_such([2, 1, 1, 1, 63, 0, 0], 62)
        self.none_such(TWO * 64, 2 ** 64)
        self.none_such(TWO * 63 + [2, 1, 1, 1, 63, 0, 0], 63 * 2 ** 63 - 1)
        for make in [*SMALL_MAKES, *LARGE_MAKES]:
            self.is_fewest(make, 0, [0] * len(beads(make)))
            self.is_fewest(make, largest(make), beads(make))
            for number in (largest(make) + 1, 2 * largest(make) + 1, 10 ** 99, HUNDRED_FIGURES):
                self.none_such(make, number)

    def test_all_beads_that_a_make_can_have(self):
        make = [20, 15, 1, 15, 1, 15, 1] * 64
        self.is_fewest(make, largest(make), [15] * 192)
        self.is_fewest(make, largest(make) - 1, [14] + [15] * 191)
        self.none_such(make, largest(make) + 1)

    def test_many_rods_against_the_best_told_rod_by_rod(self):
        makes = [sum(some_rods(64, seed, most_beads=3), []) for seed in range(30, 36)]
        for make in [*LARGE_MAKES, *makes, sum(CHOICES * 4, []), TENS_BELOW * 64, (QUARTERS + TWENTY_BELOW) * 32]:
            for number in (middle(make), largest(make) // 3 + 7, largest(make) * 4 // 5, span(make)[1] - 1):
                standing = fewest_rod_by_rod(number, make)
                if standing is None:
                    self.assertEqual(ways(number, make), [0, 0])
                    self.none_such(make, number)
                else:
                    self.assertEqual(value(make, standing), [0, number])
                    self.is_fewest(make, number, standing)

    def test_it_is_not_the_standing_in_form(self):
        for make, number in ((EQUAL_TWO, 1), (AS_MANY[0], 4), (TWENTY_BELOW * 2, 20), (TENS_BELOW * 64, 10 ** 63)):
            standing = fewest(number, make)[1:]
            self.assertEqual(formed(make, standing), [0])
            self.assertLessEqual(sum(standing), sum(show(number, make)[1:]))

    def test_a_list_that_is_no_make(self):
        for make, refusal in NO_MAKES:
            for number in (0, 1, 10 ** 99, HUNDRED_FIGURES):
                self.assertEqual(fewest(number, list(make)), refusal)
        for rule, rod in ((2, BREAKS_2), (3, BREAKS_3), (4, BREAKS_4)):
            self.assertEqual(fewest(HUNDRED_FIGURES, FIVE_ONE + rod), [-5, rule, 1])

    def test_as_much_work_as_is_allowed(self):
        for rod, r, p, w in MUCH_WORK:
            make = rod * r
            calls = [(fewest, middle(make) + more, make) for more in range(work_allowed(r * r * p * p * w))]
            self.assertLess(seconds_taken(calls), MOST_SECONDS)


if __name__ == "__main__":
    unittest.main()
