"""Tests of judge and span: which lists are makes, and what is told of the others."""

import contextlib
import inspect
import io
import itertools
import math
import unittest

from beadframes.frames import judge, span

FIVE_ONE = [10, 4, 1, 1, 5, 0, 0]
FIVE_TWO = [10, 5, 1, 2, 5, 0, 0]
TEN_IN_A_ROW = [10, 10, 1, 0, 0, 0, 0]
QUARTERS = [4, 3, 1, 0, 0, 0, 0]
THREE_DECKS = [20, 4, 1, 1, 5, 1, 10]
GOOD_RODS = (FIVE_ONE, FIVE_TWO, TEN_IN_A_ROW, QUARTERS, THREE_DECKS)

BREAKS_2 = [21, 20, 1, 0, 0, 0, 0]
BREAKS_3 = [4, 4, 1, 4, 63, 0, 0]
BREAKS_4 = [10, 3, 1, 1, 5, 0, 0]
BREAKS_2_3_4 = [21, 15, 17, 15, 63, 0, 0]
BREAKS_3_4 = [20, 15, 17, 15, 63, 0, 0]

LARGEST = 4294967295


class GuardedList(list):
    """A list that refuses every change."""

    def refuse(self, *args, **kwargs):
        raise AssertionError("the list handed in is changed")

    append = extend = insert = pop = remove = clear = refuse
    reverse = sort = refuse
    __setitem__ = __delitem__ = __iadd__ = __imul__ = refuse


def rod_rule_by_trial(rod):
    """The first rule that a rod breaks, told by pushing its beads in every way."""
    ratio = rod[0]
    decks = [(rod[1], rod[2]), (rod[3], rod[4]), (rod[5], rod[6])]
    rule_2 = (
        decks[0][0] == 0
        or (decks[2][0] > 0 and decks[1][0] == 0)
        or any((beads > 0) != (worth > 0) for beads, worth in decks)
        or ratio not in range(2, 21)
        or any(beads > 15 or worth > 63 for beads, worth in decks)
    )
    if rule_2:
        return 2
    if sum(beads * worth for beads, worth in decks) > 255:
        return 3
    pushes = itertools.product(*[range(beads + 1) for beads, worth in decks])
    counts = {sum(n * deck[1] for n, deck in zip(push, decks)) for push in pushes}
    if not set(range(ratio)) <= counts:
        return 4
    return 0


class MakeCase(unittest.TestCase):
    def good(self, make):
        """The list is a make: judge says so, and span tells the product of its ratios."""
        self.assertEqual(judge(list(make)), [0], make)
        self.assertEqual(span(list(make)), [0, math.prod(make[::7])], make)

    def faulty(self, make, rule, place):
        """The list is no make: both calls tell this rule and place."""
        self.assertEqual(judge(list(make)), [-5, rule, place], make)
        self.assertEqual(span(list(make)), [-5, rule, place], make)


class GoodMakes(MakeCase):
    def test_one_rod_of_one_two_and_three_decks(self):
        for rod in GOOD_RODS:
            self.good(rod)

    def test_span_is_the_product_of_all_ratios(self):
        self.assertEqual(span(QUARTERS), [0, 4])
        self.assertEqual(span(QUARTERS + TEN_IN_A_ROW), [0, 40])
        self.assertEqual(span(QUARTERS + FIVE_ONE + THREE_DECKS), [0, 800])
        self.assertEqual(span(FIVE_ONE * 13), [0, 10000000000000])

    def test_rods_of_several_makes_together(self):
        for rods in itertools.product(GOOD_RODS, repeat=3):
            self.good(rods[0] + rods[1] + rods[2])

    def test_span_of_many_rods_is_whole_and_exact(self):
        self.assertEqual(span(THREE_DECKS * 64), [0, 20 ** 64])
        self.assertEqual(span([2, 1, 1, 0, 0, 0, 0] * 64), [0, 18446744073709551616])

    def test_decks_need_not_be_ordered_by_worth(self):
        self.good([10, 1, 5, 4, 1, 0, 0])
        self.good([20, 1, 10, 1, 5, 4, 1])
        self.good([10, 2, 1, 2, 1, 5, 1])

    def test_a_rod_may_show_more_than_its_ratio(self):
        self.good([2, 15, 1, 0, 0, 0, 0])
        self.good([2, 1, 1, 1, 63, 1, 63])


class WholeRods(MakeCase):
    def test_no_number_at_all(self):
        self.faulty([], 1, 0)

    def test_every_length_that_is_not_seven_a_rod(self):
        numbers = FIVE_ONE * 100
        for length in range(701):
            make = numbers[:length]
            if length % 7 == 0 and 1 <= length // 7 <= 64:
                self.good(make)
            else:
                self.faulty(make, 1, 0)

    def test_64_rods_and_65(self):
        self.good(QUARTERS * 64)
        self.faulty(QUARTERS * 65, 1, 0)
        self.faulty(QUARTERS * 100, 1, 0)
        self.faulty(QUARTERS * 64 + [4], 1, 0)

    def test_the_whole_list_is_looked_at_before_any_rod(self):
        self.faulty(BREAKS_2 + QUARTERS[:6], 1, 0)
        self.faulty(BREAKS_3 * 65, 1, 0)
        self.faulty([LARGEST], 1, 0)
        self.faulty([LARGEST] * 699, 1, 0)
        self.faulty([LARGEST] * 700, 1, 0)


class Numbers(MakeCase):
    def test_ratio_from_2_to_20(self):
        for ratio in range(2, 21):
            self.good([ratio, 4, 1, 3, 5, 0, 0])
        for ratio in (0, 1, 21, 22, 63, LARGEST):
            self.faulty([ratio, 15, 1, 15, 1, 0, 0], 2, 0)

    def test_beads_up_to_15(self):
        self.good([2, 1, 1, 1, 1, 1, 1])
        self.good([16, 15, 1, 15, 1, 15, 1])
        for beads in (16, 17, LARGEST):
            self.faulty([2, beads, 1, 15, 1, 15, 1], 2, 0)
            self.faulty([2, 15, 1, beads, 1, 15, 1], 2, 0)
            self.faulty([2, 15, 1, 15, 1, beads, 1], 2, 0)

    def test_deck_0_without_beads(self):
        self.faulty([2, 0, 0, 0, 0, 0, 0], 2, 0)
        self.faulty([2, 0, 1, 0, 0, 0, 0], 2, 0)
        self.faulty([10, 0, 0, 10, 1, 0, 0], 2, 0)
        self.faulty([10, 0, 0, 4, 1, 1, 5], 2, 0)

    def test_beads_in_deck_2_and_none_in_deck_1(self):
        self.faulty([10, 4, 1, 0, 0, 1, 5], 2, 0)
        self.faulty([2, 1, 1, 0, 0, 1, 1], 2, 0)
        self.faulty([10, 4, 1, 0, 5, 1, 5], 2, 0)
        self.good([10, 4, 1, 1, 5, 1, 5])

    def test_worth_up_to_63(self):
        self.good([2, 1, 1, 1, 63, 0, 0])
        self.good([2, 1, 1, 1, 1, 1, 63])
        self.good([2, 1, 63, 1, 1, 0, 0])
        for worth in (64, 65, LARGEST):
            self.faulty([2, 1, worth, 1, 1, 0, 0], 2, 0)
            self.faulty([2, 1, 1, 1, worth, 0, 0], 2, 0)
            self.faulty([2, 1, 1, 1, 1, 1, worth], 2, 0)

    def test_beads_without_worth(self):
        self.faulty([2, 1, 0, 0, 0, 0, 0], 2, 0)
        self.faulty([2, 1, 0, 1, 1, 0, 0], 2, 0)
        self.faulty([2, 1, 1, 1, 0, 0, 0], 2, 0)
        self.faulty([2, 1, 1, 1, 1, 1, 0], 2, 0)
        self.faulty([2, 1, 1, LARGEST, 0, 0, 0], 2, 0)

    def test_worth_without_beads(self):
        self.faulty([2, 0, 1, 1, 1, 0, 0], 2, 0)
        self.faulty([2, 1, 1, 0, 1, 0, 0], 2, 0)
        self.faulty([2, 1, 1, 0, 0, 0, 1], 2, 0)
        self.faulty([2, 1, 1, 1, 1, 0, 1], 2, 0)
        self.faulty([2, 1, 1, 0, LARGEST, 0, 0], 2, 0)

    def test_a_number_as_large_as_may_be_handed_in(self):
        for place in range(7):
            rod = list(THREE_DECKS)
            rod[place] = LARGEST
            self.faulty(rod, 2, 0)
            self.faulty(QUARTERS * 63 + rod, 2, 63)
        self.faulty([LARGEST] * 7, 2, 0)
        self.faulty([LARGEST] * 448, 2, 0)


class WorthTogether(MakeCase):
    def test_255_and_256(self):
        self.good([4, 3, 1, 4, 63, 0, 0])
        self.faulty([4, 4, 1, 4, 63, 0, 0], 3, 0)
        self.good([20, 15, 1, 15, 15, 15, 1])
        self.faulty([20, 15, 1, 15, 15, 8, 2], 3, 0)
        self.good([20, 15, 1, 15, 16, 0, 0])
        self.faulty([20, 15, 1, 15, 16, 1, 1], 3, 0)

    def test_the_most_that_decks_can_be_worth(self):
        self.faulty([20, 15, 63, 15, 63, 15, 63], 3, 0)
        self.faulty([2, 15, 63, 0, 0, 0, 0], 3, 0)
        self.faulty([2, 5, 63, 0, 0, 0, 0], 3, 0)


class Digits(MakeCase):
    def test_the_lowest_number_that_can_lack(self):
        self.faulty([2, 1, 2, 0, 0, 0, 0], 4, 0)
        self.faulty([10, 9, 2, 1, 3, 0, 0], 4, 0)
        self.faulty([20, 15, 2, 15, 4, 15, 6], 4, 0)
        self.good([10, 9, 2, 1, 1, 0, 0])

    def test_the_highest_number_that_can_lack(self):
        self.faulty([10, 8, 1, 0, 0, 0, 0], 4, 0)
        self.good([10, 9, 1, 0, 0, 0, 0])
        self.faulty([10, 3, 1, 1, 5, 0, 0], 4, 0)
        self.faulty([20, 3, 1, 1, 5, 1, 10], 4, 0)
        self.faulty([20, 4, 1, 1, 4, 1, 10], 4, 0)
        self.faulty([20, 15, 1, 1, 3, 0, 0], 4, 0)
        self.good([20, 15, 1, 1, 4, 0, 0])
        self.faulty([20, 14, 1, 2, 2, 0, 0], 4, 0)
        self.good([20, 14, 1, 2, 2, 1, 1])

    def test_just_the_number_below_the_ratio_lacks(self):
        for ratio in range(2, 16):
            self.good([ratio + 1, ratio, 1, 0, 0, 0, 0])
            self.faulty([ratio + 1, ratio - 1, 1, 1, ratio + 1, 0, 0], 4, 0)

    def test_a_number_between_lacks(self):
        self.faulty([7, 3, 1, 1, 5, 0, 0], 4, 0)
        self.good([4, 3, 1, 1, 5, 0, 0])
        self.faulty([9, 3, 1, 1, 5, 0, 0], 4, 0)
        self.faulty([20, 6, 1, 1, 8, 1, 16], 4, 0)

    def test_the_ratio_itself_may_lack(self):
        self.good([2, 1, 1, 1, 3, 0, 0])
        self.good([10, 4, 1, 1, 5, 1, 11])


class SeveralFaults(MakeCase):
    def test_each_rule_by_itself_on_each_rod(self):
        for rule, rod in ((2, BREAKS_2), (3, BREAKS_3), (4, BREAKS_4)):
            self.faulty(rod, rule, 0)
            for place in range(64):
                self.faulty(QUARTERS * place + rod + FIVE_ONE * (63 - place), rule, place)

    def test_of_one_rod_the_first_rule_is_told(self):
        self.faulty(BREAKS_2_3_4, 2, 0)
        self.faulty(BREAKS_3_4, 3, 0)
        self.faulty(QUARTERS + BREAKS_2_3_4, 2, 1)
        self.faulty(QUARTERS + BREAKS_3_4, 3, 1)

    def test_the_first_rod_is_told_whatever_rule_a_later_one_breaks(self):
        rods = ((0, QUARTERS), (2, BREAKS_2), (3, BREAKS_3), (4, BREAKS_4), (2, BREAKS_2_3_4), (3, BREAKS_3_4))
        for several in itertools.product(rods, repeat=3):
            make = several[0][1] + several[1][1] + several[2][1]
            faults = [(rule, place) for place, (rule, rod) in enumerate(several) if rule > 0]
            if faults:
                self.faulty(make, faults[0][0], faults[0][1])
            else:
                self.good(make)


class AgainstTrial(MakeCase):
    def test_every_rod_of_some_numbers(self):
        ratios = (1, 2, 3, 6, 10, 20, 21)
        decks = ((0, 0), (0, 1), (1, 0), (1, 1), (1, 2), (3, 1), (4, 1), (2, 3), (1, 5), (3, 5), (15, 1), (16, 1),
                 (4, 63), (1, 64))
        for ratio, deck_0, deck_1, deck_2 in itertools.product(ratios, decks, decks, decks):
            rod = [ratio, *deck_0, *deck_1, *deck_2]
            rule = rod_rule_by_trial(rod)
            if rule > 0:
                self.faulty(rod, rule, 0)
            else:
                self.good(rod)

    def test_a_bead_more_is_so_much_more_as_it_is_worth(self):
        for beads, worth, others in itertools.product(range(1, 16), range(1, 17), range(1, 16)):
            rod = [others + 1, others, 1, beads, worth, 0, 0]
            rule = rod_rule_by_trial(rod)
            if rule > 0:
                self.faulty(rod, rule, 0)
            else:
                self.good(rod)


class HowTheCallsStand(unittest.TestCase):
    MAKES = (
        [],
        [10, 4, 1],
        QUARTERS * 65,
        THREE_DECKS * 64,
        QUARTERS + FIVE_ONE,
        QUARTERS + BREAKS_2,
        QUARTERS + BREAKS_3,
        QUARTERS + BREAKS_4,
        [LARGEST] * 700,
    )

    def test_the_interface_names_one_argument(self):
        for call in (judge, span):
            parameters = inspect.signature(call).parameters
            self.assertEqual(list(parameters), ["make"])
            self.assertIs(parameters["make"].default, inspect.Parameter.empty)
            self.assertEqual(call.__module__, "beadframes.frames")
        self.assertEqual(judge(make=list(QUARTERS)), [0])
        self.assertEqual(span(make=list(QUARTERS)), [0, 4])

    def test_a_list_of_whole_numbers_is_given_back(self):
        for make in self.MAKES:
            for call in (judge, span):
                answer = call(list(make))
                self.assertIs(type(answer), list)
                for number in answer:
                    self.assertIs(type(number), int)

    def test_the_list_handed_in_is_not_changed_for_a_while_either(self):
        for make in self.MAKES:
            for call in (judge, span):
                handed = GuardedList(make)
                call(handed)
                self.assertEqual(list(handed), make)

    def test_a_call_answers_as_if_for_the_first_time(self):
        for call in (judge, span):
            firsts = [call(list(make)) for make in self.MAKES]
            agains = [call(list(make)) for make in reversed(self.MAKES)]
            self.assertEqual(firsts, agains[::-1])

    def test_an_answer_that_is_changed_changes_no_later_one(self):
        for make in self.MAKES:
            for call in (judge, span):
                handed = list(make)
                answer = call(handed)
                as_it_was = list(answer)
                answer.append(7)
                answer[0] = 8
                self.assertEqual(handed, make)
                self.assertEqual(call(handed), as_it_was)

    def test_a_list_changed_between_two_calls_is_looked_at_anew(self):
        handed = list(QUARTERS)
        self.assertEqual(span(handed), [0, 4])
        handed.extend(FIVE_ONE)
        self.assertEqual(span(handed), [0, 40])
        handed[0] = 1
        self.assertEqual(judge(handed), [-5, 2, 0])
        handed.pop()
        self.assertEqual(span(handed), [-5, 1, 0])

    def test_nothing_is_printed(self):
        out, err = io.StringIO(), io.StringIO()
        with contextlib.redirect_stdout(out), contextlib.redirect_stderr(err):
            for make in self.MAKES:
                judge(list(make))
                span(list(make))
        self.assertEqual(out.getvalue() + err.getvalue(), "")


if __name__ == "__main__":
    unittest.main()
