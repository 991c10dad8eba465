"""Tests of value and digits: what a standing is worth, and what each rod of a value shows."""

import itertools
import math
import unittest

from beadframes.frames import digits, judge, span, value
from tests.samples import (
    BREAKS_2, BREAKS_3, BREAKS_4, FIVE_ONE, FIVE_TWO, GOOD_RODS, HUNDRED_FIGURES, LARGEST, NO_MAKES, QUARTERS,
    TEN_IN_A_ROW, THREE_DECKS, TWO, beads, counts, places, pushes, rods, some_rods, standings, value_by_words,
)

TOWN = FIVE_ONE * 3
MIXED = QUARTERS + FIVE_ONE + THREE_DECKS + TWO + FIVE_TWO
MANY_MIXED = (QUARTERS + FIVE_ONE + THREE_DECKS + TWO) * 16
TWENTY = THREE_DECKS * 64
SMALL_MAKES = (
    TWO, QUARTERS, FIVE_ONE, TWO * 4, QUARTERS + FIVE_ONE, FIVE_TWO + TWO, [3, 2, 1, 1, 2, 1, 1] + [5, 1, 3, 2, 1, 0, 0],
)
MAKES = SMALL_MAKES + (THREE_DECKS, TOWN, MIXED, MANY_MIXED, TWENTY, TWO * 64)
RANDOM_MAKES = [sum(some_rods(size, seed), []) for seed, size in enumerate((1, 2, 3, 5, 8, 13, 31, 63, 64, 64))]


class ValueCase(unittest.TestCase):
    def shows(self, make, standing, number):
        self.assertEqual(value(list(make), list(standing)), [0, number], (make, standing))

    def faulty(self, make, standing, place):
        self.assertEqual(value(list(make), list(standing)), [-5, 5, place], (make, standing))


class Values(ValueCase):
    def test_known_standings(self):
        self.shows(TOWN, [0, 0, 0, 0, 0, 0, 0, 0, 0], 0)
        self.shows(TOWN, [1, 0, 0, 0, 0, 0, 0, 0, 0], 1)
        self.shows(TOWN, [0, 1, 0, 0, 0, 0, 0, 0, 0], 5)
        self.shows(TOWN, [2, 1, 0, 0, 0, 0, 4, 0, 0], 407)
        self.shows(TOWN, [4, 1, 0, 4, 1, 0, 4, 1, 0], 999)
        self.shows(QUARTERS + TEN_IN_A_ROW, [3, 0, 0, 7, 0, 0], 31)
        self.shows(THREE_DECKS, [3, 1, 1], 18)

    def test_one_rod_of_one_two_and_three_decks(self):
        for rod in GOOD_RODS:
            for first, second, third in pushes(rod):
                self.shows(rod, [first, second, third], first * rod[2] + second * rod[4] + third * rod[6])

    def test_ratios_that_differ_from_rod_to_rod(self):
        # Places 1, 4, 40, 800, 1600.
        for rod, place in enumerate((1, 4, 40, 800, 1600)):
            self.shows(MIXED, [0, 0, 0] * rod + [1, 0, 0] + [0, 0, 0] * (4 - rod), place)
        self.shows(MIXED, [3, 0, 0, 2, 1, 0, 1, 0, 1, 0, 0, 0, 4, 1, 0], 3 + 7 * 4 + 11 * 40 + 9 * 1600)

    def test_a_count_at_its_ratio_or_above(self):
        self.shows(FIVE_TWO, [5, 1, 0], 10)
        self.shows(FIVE_TWO, [5, 2, 0], 15)
        self.shows(FIVE_TWO * 2, [5, 2, 0, 1, 0, 0], 25)
        self.shows(FIVE_TWO * 2, [5, 2, 0, 5, 2, 0], 165)
        self.shows([2, 1, 1, 1, 63, 1, 63] * 2, [1, 1, 1, 1, 1, 1], 127 * 3)
        self.shows([2, 15, 1, 15, 16, 0, 0], [15, 15, 0], 255)

    def test_64_rods(self):
        self.shows(TWO * 64, [0, 0, 0] * 64, 0)
        self.shows(TWO * 64, [1, 0, 0] * 64, 18446744073709551615)
        self.shows(TWO * 64, [0, 0, 0] * 63 + [1, 0, 0], 9223372036854775808)
        self.shows(TWENTY, [0, 0, 0] * 63 + [0, 0, 1], 10 * 20 ** 63)
        self.shows(TWENTY, [4, 1, 1] * 64, 20 ** 64 - 1)
        self.shows([20, 15, 1, 15, 16, 0, 0] * 64, [15, 15, 0] * 64, 255 * (20 ** 64 - 1) // 19)

    def test_nothing_pushed_and_all_pushed(self):
        for make in [*MAKES, *RANDOM_MAKES]:
            self.shows(make, [0] * len(beads(make)), 0)
            self.shows(make, beads(make), value_by_words(make, beads(make)))

    def test_every_standing_of_small_makes(self):
        for make in SMALL_MAKES:
            for standing in standings(make):
                self.shows(make, standing, value_by_words(make, standing))

    def test_a_bead_more_is_so_much_more_as_it_is_worth_times_its_place(self):
        for make in [*MAKES, *RANDOM_MAKES]:
            most = beads(make)
            for start in ([0] * len(most), [number // 2 for number in most], [max(number - 1, 0) for number in most]):
                before = value(make, start)[1]
                for at, number in enumerate(start):
                    if number < most[at]:
                        rod, deck = divmod(at, 3)
                        more = start[:at] + [number + 1] + start[at + 1:]
                        self.shows(make, more, before + make[7 * rod + 2 + 2 * deck] * places(make)[rod])


class StandingFaults(ValueCase):
    def test_every_length_that_is_not_three_numbers_a_rod(self):
        for make in (TWO, FIVE_ONE * 2, TWO * 64):
            for length in range(301):
                standing = [0] * length
                if length == 3 * len(rods(make)):
                    self.shows(make, standing, 0)
                else:
                    self.faulty(make, standing, length)

    def test_the_length_is_told_before_too_many_beads(self):
        for length in (0, 1, 2, 4, 5, 6, 8, 10, 12, 191, 192, 193, 300):
            self.faulty(TOWN, [LARGEST] * length, length)
        self.faulty(TWO * 64, [LARGEST] * 191, 191)
        self.faulty(TWO * 64, [LARGEST] * 193, 193)

    def test_a_bead_more_than_there_is_on_each_deck_of_each_rod(self):
        for make in [*MAKES, *RANDOM_MAKES]:
            most = beads(make)
            for at, number in enumerate(most):
                for pushed in (number + 1, number + 2, LARGEST):
                    self.faulty(make, [0] * at + [pushed] + [0] * (len(most) - at - 1), at)
                    self.faulty(make, most[:at] + [pushed] + most[at + 1:], at)

    def test_a_deck_that_is_not_there_has_no_beads(self):
        self.faulty(TEN_IN_A_ROW, [0, 1, 0], 1)
        self.faulty(TEN_IN_A_ROW, [10, 0, 1], 2)
        self.faulty(FIVE_ONE, [4, 1, 1], 2)
        self.faulty(THREE_DECKS + FIVE_ONE, [4, 1, 1, 0, 0, 1], 5)
        self.faulty(QUARTERS * 64, [0, 0, 0] * 63 + [0, 1, 0], 190)

    def test_of_several_the_first_place_is_told(self):
        self.faulty(TOWN, [5, 2, 1, 5, 2, 1, 5, 2, 1], 0)
        self.faulty(TOWN, [4, 2, 0, 5, 0, 0, 0, 0, LARGEST], 1)
        self.faulty(TOWN, [0, 0, 0, 0, 0, 1, LARGEST, 0, 0], 5)
        self.faulty(TOWN, [0, 0, 0, 0, 0, 0, LARGEST, 5, 0], 6)
        for first, second in itertools.combinations(range(9), 2):
            standing = [0] * 9
            standing[first] = 6
            standing[second] = LARGEST
            self.faulty(TOWN, standing, first)
            standing[first], standing[second] = LARGEST, 6
            self.faulty(TOWN, standing, first)

    def test_a_fault_of_the_make_is_told_before_the_standing_s(self):
        for make, refusal in NO_MAKES:
            for standing in ([], [0, 0, 0], [0] * 192, beads(make)[:300], [LARGEST] * 3, [LARGEST] * 300):
                self.assertEqual(value(list(make), list(standing)), refusal)
        self.assertEqual(value(FIVE_ONE + BREAKS_3, [5, 0, 0, 0, 0, 0]), [-5, 3, 1])
        self.assertEqual(value(FIVE_ONE + BREAKS_4, [5, 0, 0]), [-5, 4, 1])


class Digits(unittest.TestCase):
    def tells(self, make, number, expected):
        self.assertEqual(digits(number, list(make)), [0] + expected, (make, number))

    def test_known_digits(self):
        self.tells(TOWN, 407, [7, 0, 4])
        self.tells(TOWN, 999, [9, 9, 9])
        self.tells(TOWN, 10, [0, 1, 0])
        self.tells(QUARTERS + TEN_IN_A_ROW, 39, [3, 9])
        self.tells(QUARTERS + TEN_IN_A_ROW, 6, [2, 1])
        self.tells(TEN_IN_A_ROW + QUARTERS, 39, [9, 3])
        self.tells(MIXED, 15871, [3, 7, 16, 1, 9])

    def test_0_and_1_and_the_highest_below_the_span(self):
        for make in [*MAKES, *RANDOM_MAKES]:
            size = len(rods(make))
            self.tells(make, 0, [0] * size)
            self.tells(make, 1, [1] + [0] * (size - 1))
            self.tells(make, span(make)[1] - 1, [ratio - 1 for ratio in make[::7]])

    def test_a_value_that_is_not_below_the_span(self):
        for make in [*MAKES, *RANDOM_MAKES]:
            beyond = math.prod(make[::7])
            for number in (beyond, beyond + 1, 2 * beyond, HUNDRED_FIGURES):
                self.assertEqual(digits(number, list(make)), [-4], (make, number))

    def test_every_value_of_small_makes(self):
        for make in SMALL_MAKES:
            ratios = make[::7]
            # The product's last range goes fastest, as rod 0's digit does.
            expected = [list(several)[::-1] for several in itertools.product(*[range(n) for n in ratios[::-1]])]
            self.assertEqual([digits(number, make)[1:] for number in range(span(make)[1])], expected)

    def test_digits_times_places_are_the_value_and_each_is_below_its_ratio(self):
        for make in [*MAKES, *RANDOM_MAKES]:
            self.assertEqual(judge(make), [0])
            beyond = math.prod(make[::7])
            for part in range(1, 30):
                number = beyond * part // 31 + part % 3
                answer = digits(number % beyond, list(make))
                self.assertEqual(answer[0], 0)
                self.assertEqual(len(answer), 1 + len(rods(make)))
                self.assertEqual(sum(n * place for n, place in zip(answer[1:], places(make))), number % beyond)
                for digit, ratio in zip(answer[1:], make[::7]):
                    self.assertIn(digit, range(ratio))

    def test_digits_are_what_the_rods_of_a_standing_show(self):
        for make in SMALL_MAKES:
            for standing in standings(make):
                shown = counts(make, standing)
                if all(number < ratio for number, ratio in zip(shown, make[::7])):
                    self.tells(make, value(make, standing)[1], shown)

    def test_a_fault_of_the_make_is_told_before_a_value_too_large(self):
        for make, refusal in NO_MAKES:
            for number in (0, 1, 10 ** 99, HUNDRED_FIGURES):
                self.assertEqual(digits(number, list(make)), refusal)
        for rule, rod in ((2, BREAKS_2), (3, BREAKS_3), (4, BREAKS_4)):
            self.assertEqual(digits(HUNDRED_FIGURES, FIVE_ONE + rod), [-5, rule, 1])


if __name__ == "__main__":
    unittest.main()
