"""Tests of show and formed: the one standing in form of each value below the span."""

import itertools
import math
import unittest

from beadframes.frames import digits, formed, judge, show, span, value
from tests.samples import (
    AS_MANY, BREAKS_2, BREAKS_3, BREAKS_4, CHOICES, EQUAL_LAST, EQUAL_OUTER, EQUAL_THREE, EQUAL_TWO, FIVE_ONE,
    FIVE_TWO, FULL_RODS, GOOD_RODS, HUNDRED_FIGURES, LARGEST, NO_MAKES, NOT_GREEDY, QUARTERS, TEN_IN_A_ROW,
    THREE_DECKS, TWO, WORTHS_DOWN, WORTHS_MIXED, beads, count, pushes, rods, some_rods, standings, value_by_words,
)

RODS = (*GOOD_RODS, TWO, *CHOICES, *FULL_RODS, *some_rods(150, 3))
SMALL_MAKES = (
    TWO * 3, QUARTERS, FIVE_TWO, EQUAL_TWO + TWO, QUARTERS + EQUAL_TWO, [3, 2, 1, 1, 2, 1, 1] + [2, 1, 1, 1, 1, 0, 0],
    TWO + [4, 1, 2, 2, 1, 1, 3], AS_MANY[0] + QUARTERS, NOT_GREEDY[1],
)
MAKES = (
    FIVE_ONE * 3, QUARTERS + TEN_IN_A_ROW, TWO * 64, TEN_IN_A_ROW * 64, FIVE_TWO * 64, THREE_DECKS * 64,
    sum(CHOICES, []), sum(RODS[:64], []), FULL_RODS[0] * 64, *[sum(some_rods(64, seed), []) for seed in range(10, 16)],
)


def best_pushes(rod):
    """Each count's best way to be pushed on the rod, found by a trial of all."""
    best = {}
    for push in pushes(rod):
        rating = (-sum(push), push[0], push[1])
        shown = count(rod, push)
        if shown not in best or rating > best[shown][0]:
            best[shown] = (rating, list(push))
    return {shown: push for shown, (rating, push) in best.items()}


def in_form_by_words(make, standing):
    for place, rod in enumerate(rods(make)):
        push = standing[3 * place:3 * place + 3]
        shown = count(rod, push)
        if shown >= rod[0] or push != best_pushes(rod)[shown]:
            return 0
    return 1


def some_values(make):
    beyond = math.prod(make[::7])
    values = [0, 1, beyond - 1, *[beyond * part // 31 + part % 3 for part in range(1, 30)]]
    return sorted({number % beyond for number in values})


class Samples(unittest.TestCase):
    def test_they_are_makes(self):
        for make in [*RODS, *SMALL_MAKES, *MAKES]:
            self.assertEqual(judge(make), [0], make)


class Show(unittest.TestCase):
    def shows(self, make, number, standing):
        self.assertEqual(show(number, list(make)), [0] + standing, (make, number))

    def test_known_standings(self):
        self.shows(FIVE_ONE * 3, 407, [2, 1, 0, 0, 0, 0, 4, 0, 0])
        self.shows(FIVE_ONE * 3, 999, [4, 1, 0, 4, 1, 0, 4, 1, 0])
        self.shows(QUARTERS + TEN_IN_A_ROW, 39, [3, 0, 0, 9, 0, 0])
        self.shows(THREE_DECKS, 18, [3, 1, 1])
        self.shows(THREE_DECKS + QUARTERS, 18, [3, 1, 1, 0, 0, 0])
        self.shows(THREE_DECKS + QUARTERS, 20, [0, 0, 0, 1, 0, 0])

    def test_0_and_1_and_the_highest_below_the_span(self):
        for make in MAKES:
            self.shows(make, 0, [0] * len(beads(make)))
            one = best_pushes(make[:7])[1]
            self.shows(make, 1, one + [0] * (len(beads(make)) - 3))
            highest = [number for rod in rods(make) for number in best_pushes(rod)[rod[0] - 1]]
            self.shows(make, span(make)[1] - 1, highest)

    def test_a_value_that_is_not_below_the_span(self):
        for make in MAKES:
            beyond = math.prod(make[::7])
            for number in (beyond, beyond + 1, 2 * beyond, HUNDRED_FIGURES):
                self.assertEqual(show(number, list(make)), [-4], (make, number))

    def test_a_fault_of_the_make_is_told_before_a_value_too_large(self):
        for make, refusal in NO_MAKES:
            for number in (0, 1, 10 ** 99, HUNDRED_FIGURES):
                self.assertEqual(show(number, list(make)), refusal)
        for rule, rod in ((2, BREAKS_2), (3, BREAKS_3), (4, BREAKS_4)):
            self.assertEqual(show(HUNDRED_FIGURES, FIVE_ONE + rod), [-5, rule, 1])

    def test_the_fewest_beads_decide(self):
        self.shows(FIVE_TWO, 5, [0, 1, 0])
        self.shows([20, 15, 1, 15, 1, 15, 1], 19, [15, 4, 0])
        self.shows([10, 9, 1, 3, 3, 0, 0], 9, [0, 3, 0])
        self.shows([10, 9, 1, 3, 3, 0, 0], 8, [2, 2, 0])
        self.shows([4, 3, 1, 1, 2, 0, 0], 3, [1, 1, 0])
        self.shows(WORTHS_DOWN, 17, [1, 1, 2])
        self.shows(WORTHS_MIXED, 15, [1, 0, 1])
        self.shows([20, 15, 1, 2, 5, 1, 19], 19, [0, 0, 1])

    def test_the_largest_worth_first_would_miss_it(self):
        self.shows(NOT_GREEDY[0], 6, [0, 2, 0])
        self.shows(NOT_GREEDY[1], 6, [0, 2, 0])
        self.shows(NOT_GREEDY[2], 6, [2, 0, 0])

    def test_as_many_beads_leave_the_choice_to_deck_0(self):
        self.shows(AS_MANY[0], 4, [1, 0, 1])
        self.shows(AS_MANY[1], 4, [2, 0, 0])
        self.shows(AS_MANY[2], 4, [1, 0, 1])
        self.shows(AS_MANY[3], 4, [1, 1, 0])
        self.shows(EQUAL_TWO, 1, [1, 0, 0])
        self.shows(EQUAL_TWO, 3, [2, 1, 0])
        self.shows(EQUAL_OUTER, 3, [1, 0, 0])
        self.shows(EQUAL_OUTER, 9, [2, 0, 1])

    def test_then_to_deck_1(self):
        self.shows(EQUAL_THREE, 2, [1, 1, 0])
        self.shows(EQUAL_THREE, 5, [1, 2, 2])
        self.shows(EQUAL_LAST, 3, [0, 1, 0])
        self.shows(EQUAL_LAST, 7, [1, 2, 0])
        # As much of deck 0 with as many beads: decks 1 and 2 are of one worth then.
        self.shows([20, 1, 19, 15, 1, 15, 1], 18, [0, 15, 3])
        self.shows([20, 1, 19, 3, 1, 15, 1], 18, [0, 3, 15])

    def test_each_digit_of_each_rod_is_the_best_of_all_ways(self):
        for rod in RODS:
            best = best_pushes(rod)
            for digit in range(rod[0]):
                self.shows(rod, digit, best[digit])

    def test_each_rod_of_many_is_the_best_of_all_ways(self):
        for make in MAKES:
            bests = {tuple(rod): best_pushes(rod) for rod in rods(make)}
            for number in some_values(make):
                shown = zip(rods(make), digits(number, make)[1:])
                self.shows(make, number, [n for rod, digit in shown for n in bests[tuple(rod)][digit]])

    def test_the_standing_has_the_value_and_is_in_form(self):
        for make in MAKES:
            for number in some_values(make):
                answer = show(number, list(make))
                self.assertEqual(answer[0], 0)
                self.assertEqual(value(list(make), answer[1:]), [0, number])
                self.assertEqual(formed(list(make), answer[1:]), [1])


class Formed(unittest.TestCase):
    def is_formed(self, make, standing, expected):
        self.assertEqual(formed(list(make), list(standing)), expected, (make, standing))

    def test_known_standings(self):
        self.is_formed(FIVE_TWO * 2, [0, 1, 0, 4, 1, 0], [1])
        self.is_formed(FIVE_TWO * 2, [0, 0, 0, 0, 0, 0], [1])
        self.is_formed(THREE_DECKS, [4, 1, 1], [1])

    def test_a_count_at_its_ratio_or_above(self):
        self.is_formed(FIVE_TWO, [0, 2, 0], [0])
        self.is_formed(FIVE_TWO, [5, 1, 0], [0])
        self.is_formed(FIVE_TWO, [1, 2, 0], [0])
        self.is_formed(TEN_IN_A_ROW, [9, 0, 0], [1])
        self.is_formed(TEN_IN_A_ROW, [10, 0, 0], [0])
        self.is_formed([2, 1, 1, 1, 63, 0, 0], [0, 1, 0], [0])
        for place in range(64):
            at_ratio = [9, 0, 0] * place + [10, 0, 0] + [9, 0, 0] * (63 - place)
            self.is_formed(TEN_IN_A_ROW * 64, at_ratio, [0])
        self.is_formed(TEN_IN_A_ROW * 64, [9, 0, 0] * 64, [1])

    def test_the_same_count_with_more_beads(self):
        self.is_formed(FIVE_TWO, [5, 0, 0], [0])
        self.is_formed(FIVE_TWO * 2, [5, 0, 0, 0, 1, 0], [0])
        self.is_formed(FIVE_TWO * 2, [0, 1, 0, 5, 0, 0], [0])
        self.is_formed(NOT_GREEDY[0], [2, 0, 1], [0])
        self.is_formed(NOT_GREEDY[1], [1, 0, 2], [0])
        self.is_formed(WORTHS_DOWN, [0, 1, 4], [1])
        self.is_formed(WORTHS_MIXED, [2, 0, 0], [0])

    def test_as_many_beads_with_fewer_of_deck_0_or_of_deck_1(self):
        self.is_formed(EQUAL_TWO, [1, 0, 0], [1])
        self.is_formed(EQUAL_TWO, [0, 1, 0], [0])
        self.is_formed(EQUAL_TWO, [1, 2, 0], [0])
        self.is_formed(EQUAL_THREE, [1, 1, 0], [1])
        self.is_formed(EQUAL_THREE, [1, 0, 1], [0])
        self.is_formed(EQUAL_THREE, [0, 2, 0], [0])
        self.is_formed(EQUAL_LAST, [0, 0, 1], [0])
        self.is_formed(AS_MANY[0], [1, 0, 1], [1])
        self.is_formed(AS_MANY[0], [0, 2, 0], [0])
        self.is_formed(AS_MANY[1], [0, 1, 1], [0])

    def test_every_way_to_push_each_rod(self):
        for rod in RODS:
            best = best_pushes(rod)
            for push in pushes(rod)[::7 if len(pushes(rod)) > 500 else 1]:
                shown = count(rod, push)
                self.is_formed(rod, push, [int(shown < rod[0] and list(push) == best[shown])])

    def test_of_all_standings_just_one_is_in_form_for_each_value_below_the_span(self):
        for make in SMALL_MAKES:
            in_form = {}
            for standing in standings(make):
                answer = formed(list(make), list(standing))
                self.assertEqual(answer, [in_form_by_words(make, standing)], (make, standing))
                if answer == [1]:
                    self.assertNotIn(value_by_words(make, standing), in_form, (make, standing))
                    in_form[value_by_words(make, standing)] = standing
            self.assertEqual(sorted(in_form), list(range(span(make)[1])))
            for number, standing in in_form.items():
                self.assertEqual(show(number, list(make)), [0] + standing)

    def test_a_bead_moved_on_any_of_64_rods_is_seen(self):
        make = EQUAL_TWO * 64
        standing = [1, 0, 0] * 64
        self.is_formed(make, standing, [1])
        for place in range(64):
            self.is_formed(make, standing[:3 * place] + [0, 1, 0] + standing[3 * place + 3:], [0])

    def test_faults_of_the_make_and_of_the_standing(self):
        for make, refusal in NO_MAKES:
            for standing in ([], [0, 0, 0], [0] * 192, beads(make)[:300], [LARGEST] * 300):
                self.is_formed(make, standing, refusal)
        for make in (FIVE_ONE * 2, TWO * 64):
            size = len(beads(make))
            for length in (0, 1, size - 1, size + 1, 300):
                self.is_formed(make, [0] * length, [-5, 5, length])
                self.is_formed(make, [LARGEST] * length, [-5, 5, length])
            for at, most in enumerate(beads(make)):
                for pushed in (most + 1, LARGEST):
                    self.is_formed(make, [0] * at + [pushed] + [0] * (size - at - 1), [-5, 5, at])
                    self.is_formed(make, beads(make)[:at] + [pushed] * (size - at), [-5, 5, at])
        self.is_formed(FIVE_ONE + BREAKS_4, [5, 0, 0], [-5, 4, 1])


if __name__ == "__main__":
    unittest.main()
