"""Tests of judge and span: which lists are makes, and what is told of the others."""

import itertools
import math
import unittest

from beadframes.frames import judge, span
from tests.samples import (
    BREAKS_2, BREAKS_3, BREAKS_4, FIVE_ONE, GOOD_RODS, LARGEST, QUARTERS, TEN_IN_A_ROW, THREE_DECKS, TWO, rod_rule,
)

BREAKS_2_3_4 = [21, 15, 17, 15, 63, 0, 0]
BREAKS_3_4 = [20, 15, 17, 15, 63, 0, 0]


class MakeCase(unittest.TestCase):
    def good(self, make):
        """The list is a make: judge says so, and span tells the product of its ratios."""
        self.assertEqual(judge(list(make)), [0], make)
        self.assertEqual(span(list(make)), [0, math.prod(make[::7])], make)

    def faulty(self, make, rule, place):
        """The list is no make: both calls tell this rule and place."""
        self.assertEqual(judge(list(make)), [-5, rule, place], make)
        self.assertEqual(span(list(make)), [-5, rule, place], make)


class GoodMakes(MakeCase):
    def test_one_rod_of_one_two_and_three_decks(self):
        for rod in GOOD_RODS:
            self.good(rod)

    def test_span_is_the_product_of_all_ratios(self):
        self.assertEqual(span(QUARTERS), [0, 4])
        self.assertEqual(span(QUARTERS + TEN_IN_A_ROW), [0, 40])
        self.assertEqual(span(QUARTERS + FIVE_ONE + THREE_DECKS), [0, 800])
        self.assertEqual(span(FIVE_ONE * 13), [0, 10000000000000])

    def test_rods_of_several_makes_together(self):
        for rods in itertools.product(GOOD_RODS, repeat=3):
            self.good(rods[0] + rods[1] + rods[2])

    def test_span_of_many_rods_is_whole_and_exact(self):
        self.assertEqual(span(THREE_DECKS * 64), [0, 20 ** 64])
        self.assertEqual(span(TWO * 64), [0, 18446744073709551616])

    def test_decks_need_not_be_ordered_by_worth(self):
        self.good([10, 1, 5, 4, 1, 0, 0])
        self.good([20, 1, 10, 1, 5, 4, 1])
        self.good([10, 2, 1, 2, 1, 5, 1])

    def test_a_rod_may_show_more_than_its_ratio(self):
        self.good([2, 15, 1, 0, 0, 0, 0])
        self.good([2, 1, 1, 1, 63, 1, 63])


class WholeRods(MakeCase):
    def test_no_number_at_all(self):
        self.faulty([], 1, 0)

    def test_every_length_that_is_not_seven_a_rod(self):
        numbers = FIVE_ONE * 100
        for length in range(701):
            make = numbers[:length]
            if length % 7 == 0 and 1 <= length // 7 <= 64:
                self.good(make)
            else:
                self.faulty(make, 1, 0)

    def test_64_rods_and_65(self):
        self.good(QUARTERS * 64)
        self.faulty(QUARTERS * 65, 1, 0)
        self.faulty(QUARTERS * 100, 1, 0)
        self.faulty(QUARTERS * 64 + [4], 1, 0)

    def test_the_whole_list_is_looked_at_before_any_rod(self):
        self.faulty(BREAKS_2 + QUARTERS[:6], 1, 0)
        self.faulty(BREAKS_3 * 65, 1, 0)
        self.faulty([LARGEST], 1, 0)
        self.faulty([LARGEST] * 699, 1, 0)
        self.faulty([LARGEST] * 700, 1, 0)


class Numbers(MakeCase):
    def test_ratio_from_2_to_20(self):
        for ratio in range(2, 21):
            self.good([ratio, 4, 1, 3, 5, 0, 0])
        for ratio in (0, 1, 21, 22, 63, LARGEST):
            self.faulty([ratio, 15, 1, 15, 1, 0, 0], 2, 0)

    def test_beads_up_to_15(self):
        self.good([2, 1, 1, 1, 1, 1, 1])
        self.good([16, 15, 1, 15, 1, 15, 1])
        for beads in (16, 17, LARGEST):
            self.faulty([2, beads, 1, 15, 1, 15, 1], 2, 0)
            self.faulty([2, 15, 1, beads, 1, 15, 1], 2, 0)
            self.faulty([2, 15, 1, 15, 1, beads, 1], 2, 0)

    def test_deck_0_without_beads(self):
        self.faulty([2, 0, 0, 0, 0, 0, 0], 2, 0)
        self.faulty([2, 0, 1, 0, 0, 0, 0], 2, 0)
        self.faulty([10, 0, 0, 10, 1, 0, 0], 2, 0)
        self.faulty([10, 0, 0, 4, 1, 1, 5], 2, 0)

    def test_beads_in_deck_2_and_none_in_deck_1(self):
        self.faulty([10, 4, 1, 0, 0, 1, 5], 2, 0)
        self.faulty([2, 1, 1, 0, 0, 1, 1], 2, 0)
        self.faulty([10, 4, 1, 0, 5, 1, 5], 2, 0)
        self.good([10, 4, 1, 1, 5, 1, 5])

    def test_worth_up_to_63(self):
        self.good([2, 1, 1, 1, 63, 0, 0])
        self.good([2, 1, 1, 1, 1, 1, 63])
        self.good([2, 1, 63, 1, 1, 0, 0])
        for worth in (64, 65, LARGEST):
            self.faulty([2, 1, worth, 1, 1, 0, 0], 2, 0)
            self.faulty([2, 1, 1, 1, worth, 0, 0], 2, 0)
            self.faulty([2, 1, 1, 1, 1, 1, worth], 2, 0)

    def test_beads_without_worth(self):
        self.faulty([2, 1, 0, 0, 0, 0, 0], 2, 0)
        self.faulty([2, 1, 0, 1, 1, 0, 0], 2, 0)
        self.faulty([2, 1, 1, 1, 0, 0, 0], 2, 0)
        self.faulty([2, 1, 1, 1, 1, 1, 0], 2, 0)
        self.faulty([2, 1, 1, LARGEST, 0, 0, 0], 2, 0)

    def test_worth_without_beads(self):
        self.faulty([2, 0, 1, 1, 1, 0, 0], 2, 0)
        self.faulty([2, 1, 1, 0, 1, 0, 0], 2, 0)
        self.faulty([2, 1, 1, 0, 0, 0, 1], 2, 0)
        self.faulty([2, 1, 1, 1, 1, 0, 1], 2, 0)
        self.faulty([2, 1, 1, 0, LARGEST, 0, 0], 2, 0)

    def test_a_number_as_large_as_may_be_handed_in(self):
        for place in range(7):
            rod = list(THREE_DECKS)
            rod[place] = LARGEST
            self.faulty(rod, 2, 0)
            self.faulty(QUARTERS * 63 + rod, 2, 63)
        self.faulty([LARGEST] * 7, 2, 0)
        self.faulty([LARGEST] * 448, 2, 0)


class WorthTogether(MakeCase):
    def test_255_and_256(self):
        self.good([4, 3, 1, 4, 63, 0, 0])
        self.faulty([4, 4, 1, 4, 63, 0, 0], 3, 0)
        self.good([20, 15, 1, 15, 15, 15, 1])
        self.faulty([20, 15, 1, 15, 15, 8, 2], 3, 0)
        self.good([20, 15, 1, 15, 16, 0, 0])
        self.faulty([20, 15, 1, 15, 16, 1, 1], 3, 0)

    def test_the_most_that_decks_can_be_worth(self):
        self.faulty([20, 15, 63, 15, 63, 15, 63], 3, 0)
        self.faulty([2, 15, 63, 0, 0, 0, 0], 3, 0)
        self.faulty([2, 5, 63, 0, 0, 0, 0], 3, 0)


class Digits(MakeCase):
    def test_the_lowest_number_that_can_lack(self):
        self.faulty([2, 1, 2, 0, 0, 0, 0], 4, 0)
        self.faulty([10, 9, 2, 1, 3, 0, 0], 4, 0)
        self.faulty([20, 15, 2, 15, 4, 15, 6], 4, 0)
        self.good([10, 9, 2, 1, 1, 0, 0])

    def test_the_highest_number_that_can_lack(self):
        self.faulty([10, 8, 1, 0, 0, 0, 0], 4, 0)
        self.good([10, 9, 1, 0, 0, 0, 0])
        self.faulty([10, 3, 1, 1, 5, 0, 0], 4, 0)
        self.faulty([20, 3, 1, 1, 5, 1, 10], 4, 0)
        self.faulty([20, 4, 1, 1, 4, 1, 10], 4, 0)
        self.faulty([20, 15, 1, 1, 3, 0, 0], 4, 0)
        self.good([20, 15, 1, 1, 4, 0, 0])
        self.faulty([20, 14, 1, 2, 2, 0, 0], 4, 0)
        self.good([20, 14, 1, 2, 2, 1, 1])

    def test_just_the_number_below_the_ratio_lacks(self):
        for ratio in range(2, 16):
            self.good([ratio + 1, ratio, 1, 0, 0, 0, 0])
            self.faulty([ratio + 1, ratio - 1, 1, 1, ratio + 1, 0, 0], 4, 0)

    def test_a_number_between_lacks(self):
        self.faulty([7, 3, 1, 1, 5, 0, 0], 4, 0)
        self.good([4, 3, 1, 1, 5, 0, 0])
        self.faulty([9, 3, 1, 1, 5, 0, 0], 4, 0)
        self.faulty([20, 6, 1, 1, 8, 1, 16], 4, 0)

    def test_the_ratio_itself_may_lack(self):
        self.good([2, 1, 1, 1, 3, 0, 0])
        self.good([10, 4, 1, 1, 5, 1, 11])


class SeveralFaults(MakeCase):
    def test_each_rule_by_itself_on_each_rod(self):
        for rule, rod in ((2, BREAKS_2), (3, BREAKS_3), (4, BREAKS_4)):
            self.faulty(rod, rule, 0)
            for place in range(64):
                self.faulty(QUARTERS * place + rod + FIVE_ONE * (63 - place), rule, place)

    def test_of_one_rod_the_first_rule_is_told(self):
        self.faulty(BREAKS_2_3_4, 2, 0)
        self.faulty(BREAKS_3_4, 3, 0)
        self.faulty(QUARTERS + BREAKS_2_3_4, 2, 1)
        self.faulty(QUARTERS + BREAKS_3_4, 3, 1)

    def test_the_first_rod_is_told_whatever_rule_a_later_one_breaks(self):
        rods = ((0, QUARTERS), (2, BREAKS_2), (3, BREAKS_3), (4, BREAKS_4), (2, BREAKS_2_3_4), (3, BREAKS_3_4))
        for several in itertools.product(rods, repeat=3):
            make = several[0][1] + several[1][1] + several[2][1]
            faults = [(rule, place) for place, (rule, rod) in enumerate(several) if rule > 0]
            if faults:
                self.faulty(make, faults[0][0], faults[0][1])
            else:
                self.good(make)


class AgainstTrial(MakeCase):
    def test_every_rod_of_some_numbers(self):
        ratios = (1, 2, 3, 6, 10, 20, 21)
        decks = ((0, 0), (0, 1), (1, 0), (1, 1), (1, 2), (3, 1), (4, 1), (2, 3), (1, 5), (3, 5), (15, 1), (16, 1),
                 (4, 63), (1, 64))
        for ratio, deck_0, deck_1, deck_2 in itertools.product(ratios, decks, decks, decks):
            rod = [ratio, *deck_0, *deck_1, *deck_2]
            rule = rod_rule(rod)
            if rule > 0:
                self.faulty(rod, rule, 0)
            else:
                self.good(rod)

    def test_a_bead_more_is_so_much_more_as_it_is_worth(self):
        for beads, worth, others in itertools.product(range(1, 16), range(1, 17), range(1, 16)):
            rod = [others + 1, others, 1, beads, worth, 0, 0]
            rule = rod_rule(rod)
            if rule > 0:
                self.faulty(rod, rule, 0)
            else:
                self.good(rod)


if __name__ == "__main__":
    unittest.main()
