"""Tests of what the document promises over all calls together, on makes of few enough standings to go through."""

import unittest

from beadframes.frames import digits, fewest, formed, judge, nth, rank, show, span, value, ways
from tests.samples import (
    AS_MANY, BREAKS_2, BREAKS_3, BREAKS_4, EQUAL_THREE, EQUAL_TWO, FAR_BEYOND, FIVE_ONE, FIVE_TWO, HUNDRED_FIGURES,
    NOT_GREEDY, QUARTERS, THREE_DECKS, TWO, TWO_TWOS, beads, counts, in_order, places, rod_rule, rods, standings,
)

MAKES = (
    QUARTERS, EQUAL_THREE, TWO_TWOS * 5, QUARTERS + FIVE_TWO, FIVE_TWO * 2, EQUAL_TWO * 2 + TWO, THREE_DECKS + FIVE_ONE,
    AS_MANY[2] + AS_MANY[0], NOT_GREEDY[1] + NOT_GREEDY[0], FAR_BEYOND[1] * 2, FAR_BEYOND[3] + FAR_BEYOND[2],
    [3, 2, 1, 1, 2, 1, 1] + [2, 1, 1, 1, 1, 0, 0] * 2,
)


def all_of(number, make):
    """All standings of the value, as nth tells them."""
    return [nth(number, k, make)[1:] for k in range(ways(number, make)[1])]


class ThePromises(unittest.TestCase):
    def test_each_value_below_the_span_has_one_standing_in_form_which_is_told(self):
        for make in MAKES:
            for number in range(span(make)[1]):
                in_form = [standing for standing in all_of(number, make) if formed(make, standing) == [1]]
                self.assertEqual([show(number, make)], [[0] + standing for standing in in_form])
                self.assertEqual(value(make, in_form[0]), [0, number])
                self.assertEqual(digits(number, make), [0] + counts(make, in_form[0]))

    def test_no_standing_of_the_span_or_more_is_in_form(self):
        for make in MAKES:
            for standing in standings(make):
                number = value(make, standing)[1]
                if number >= span(make)[1]:
                    self.assertEqual(formed(make, standing), [0])
                    self.assertEqual((digits(number, make), show(number, make)), ([-4], [-4]))

    def test_a_value_s_standings_are_told_each_once_in_order_as_many_as_are_counted(self):
        for make in MAKES:
            told = 0
            for number in range(value(make, beads(make))[1] + 3):
                several = all_of(number, make)
                self.assertEqual([value(make, standing) for standing in several], [[0, number]] * len(several))
                self.assertEqual(len({tuple(standing) for standing in several}), len(several))
                self.assertEqual(several, sorted(several, key=in_order))
                self.assertEqual(nth(number, len(several), make), [-2])
                self.assertEqual(nth(number, HUNDRED_FIGURES, make), [-2])
                told += len(several)
            self.assertEqual(told, len(list(standings(make))))

    def test_a_standing_s_number_leads_back_to_it(self):
        for make in MAKES:
            for standing in standings(make):
                number = value(make, standing)[1]
                k = rank(make, standing)[1]
                self.assertEqual(nth(number, k, make), [0] + standing)
            for number in range(value(make, beads(make))[1] + 1):
                ranks = [rank(make, standing) for standing in all_of(number, make)]
                self.assertEqual(ranks, [[0, k] for k in range(ways(number, make)[1])])

    def test_no_standing_has_fewer_beads_than_the_one_told_none_with_as_few_comes_before_it(self):
        for make in MAKES:
            for number in range(value(make, beads(make))[1] + 3):
                several = all_of(number, make)
                if several == []:
                    self.assertEqual(fewest(number, make), [-2])
                    continue
                least = min(sum(standing) for standing in several)
                first = [standing for standing in several if sum(standing) == least][0]
                self.assertEqual(fewest(number, make), [0] + first)

    def test_a_bead_more_is_so_much_more_as_it_is_worth_times_its_place(self):
        for make in MAKES:
            most = beads(make)
            for standing in standings(make):
                before = value(make, standing)[1]
                for at, number in enumerate(standing):
                    more = standing[:at] + [number + 1] + standing[at + 1:]
                    rod, deck = divmod(at, 3)
                    if number < most[at]:
                        worth = make[7 * rod + 2 + 2 * deck]
                        self.assertEqual(value(make, more), [0, before + worth * places(make)[rod]])
                    else:
                        self.assertEqual(value(make, more), [-5, 5, at])

    def test_a_list_is_a_make_s_just_if_there_is_no_fault(self):
        for make in (*MAKES, BREAKS_2, QUARTERS + BREAKS_3, FIVE_ONE * 2 + BREAKS_4 + BREAKS_2, BREAKS_4 * 3):
            faults = [[-5, rod_rule(rod), place] for place, rod in enumerate(rods(make)) if rod_rule(rod) > 0]
            nothing = [0] * len(beads(make))
            answers = [
                judge(make), span(make), value(make, nothing), digits(0, make), show(0, make), formed(make, nothing),
                ways(0, make), nth(0, 0, make), rank(make, nothing), fewest(0, make),
            ]
            if faults:
                self.assertEqual(answers, faults[:1] * 10)
            else:
                self.assertEqual(answers[0], [0])
                self.assertEqual([answer[0] for answer in answers], [0, 0, 0, 0, 0, 1, 0, 0, 0, 0])


if __name__ == "__main__":
    unittest.main()
