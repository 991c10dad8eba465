"""Tests of what holds for every call alike: its arguments, its kinds, that nothing is kept or changed."""

import contextlib
import inspect
import io
import unittest

from beadframes import frames
from tests.language import INTERFACE
from tests.samples import (
    FIVE_ONE, FIVE_TWO, GuardedList, HUNDRED_FIGURES, LARGEST, NO_MAKES, QUARTERS, THREE_DECKS, TWO, beads,
)

MAKES = (QUARTERS, QUARTERS + FIVE_ONE, FIVE_TWO * 3, THREE_DECKS * 64, TWO * 64)
FAULTY_MAKES = tuple(make for make, refusal in NO_MAKES)
VALUES = (0, 1, 3, 4, 39, 40, LARGEST, HUNDRED_FIGURES)


def standings_on(make):
    """Standings to hand in with a make: sound ones, and faulty ones of each sort."""
    most = beads(make)
    return ([0] * len(most), most, [1] + [0] * (len(most) - 1), most[:-1] + [LARGEST], most[1:], [], [LARGEST] * 300)


ONE_MAKE = [(make,) for make in MAKES + FAULTY_MAKES]
MAKE_AND_STANDING = [(make, standing) for make in MAKES for standing in standings_on(make)]
MAKE_AND_STANDING += [(make, standing) for make in FAULTY_MAKES for standing in ([], [0] * 3, [LARGEST] * 300)]
VALUE_AND_MAKE = [(value, make) for value in VALUES for make in MAKES + FAULTY_MAKES]
VALUE_K_AND_MAKE = [(value, k, make) for k in (0, 1, HUNDRED_FIGURES) for value, make in VALUE_AND_MAKE]

# Each call's name, its parameters, and what to hand in.
CALLS = (
    ("judge", ["make"], ONE_MAKE),
    ("span", ["make"], ONE_MAKE),
    ("value", ["make", "standing"], MAKE_AND_STANDING),
    ("digits", ["value", "make"], VALUE_AND_MAKE),
    ("show", ["value", "make"], VALUE_AND_MAKE),
    ("formed", ["make", "standing"], MAKE_AND_STANDING),
    ("ways", ["value", "make"], VALUE_AND_MAKE),
    ("nth", ["value", "k", "make"], VALUE_K_AND_MAKE),
    ("rank", ["make", "standing"], MAKE_AND_STANDING),
    ("fewest", ["value", "make"], VALUE_AND_MAKE),
)


def copied(arguments, kind=list):
    return [kind(argument) if isinstance(argument, list) else argument for argument in arguments]


def each_call():
    for name, parameters, several in CALLS:
        for arguments in several:
            yield getattr(frames, name), list(arguments)


class HowTheCallsStand(unittest.TestCase):
    def test_each_call_of_the_interface_is_looked_at(self):
        self.assertEqual(sorted(name for name, parameters, several in CALLS), sorted(INTERFACE))

    def test_the_interface_names_the_arguments(self):
        for name, parameters, several in CALLS:
            call = getattr(frames, name)
            signature = inspect.signature(call).parameters
            self.assertEqual(list(signature), parameters)
            for parameter in signature.values():
                self.assertIs(parameter.default, inspect.Parameter.empty)
            self.assertEqual(call.__module__, "beadframes.frames")
            by_place = call(*copied(several[0]))
            self.assertEqual(call(**dict(zip(parameters, copied(several[0])))), by_place)

    def test_a_list_of_whole_numbers_is_given_back(self):
        for call, arguments in each_call():
            answer = call(*copied(arguments))
            self.assertIs(type(answer), list, (call, arguments))
            self.assertEqual({type(number) for number in answer}, {int}, (call, arguments))

    def test_what_is_handed_in_is_not_changed_for_a_while_either(self):
        for call, arguments in each_call():
            handed = copied(arguments, GuardedList)
            call(*handed)
            self.assertEqual(handed, arguments, call)

    def test_a_call_answers_as_if_for_the_first_time(self):
        firsts = [call(*copied(arguments)) for call, arguments in each_call()]
        agains = [call(*copied(arguments)) for call, arguments in reversed(list(each_call()))]
        self.assertEqual(firsts, agains[::-1])

    def test_an_answer_that_is_changed_changes_nothing_else(self):
        for call, arguments in each_call():
            handed = copied(arguments)
            answer = call(*handed)
            as_it_was = list(answer)
            answer[0] = 8
            answer[-1] = 9
            answer.append(7)
            self.assertEqual(handed, arguments, call)
            self.assertEqual(call(*handed), as_it_was, call)

    def test_lists_changed_between_two_calls_are_looked_at_anew(self):
        make = list(QUARTERS)
        standing = [3, 0, 0]
        self.assertEqual(frames.span(make), [0, 4])
        self.assertEqual(frames.value(make, standing), [0, 3])
        self.assertEqual(frames.digits(3, make), [0, 3])
        self.assertEqual(frames.show(3, make), [0, 3, 0, 0])
        self.assertEqual(frames.formed(make, standing), [1])
        self.assertEqual(frames.ways(4, make), [0, 0])
        self.assertEqual(frames.nth(4, 0, make), [-2])
        self.assertEqual(frames.rank(make, standing), [0, 0])
        self.assertEqual(frames.fewest(4, make), [-2])
        make.extend(FIVE_ONE)
        self.assertEqual(frames.span(make), [0, 40])
        self.assertEqual(frames.value(make, standing), [-5, 5, 3])
        self.assertEqual(frames.digits(3, make), [0, 3, 0])
        self.assertEqual(frames.show(3, make), [0, 3, 0, 0, 0, 0, 0])
        self.assertEqual(frames.formed(make, standing), [-5, 5, 3])
        self.assertEqual(frames.ways(4, make), [0, 1])
        self.assertEqual(frames.nth(4, 0, make), [0, 0, 0, 0, 1, 0, 0])
        self.assertEqual(frames.rank(make, standing), [-5, 5, 3])
        self.assertEqual(frames.fewest(4, make), [0, 0, 0, 0, 1, 0, 0])
        standing.extend([1, 1, 0])
        self.assertEqual(frames.value(make, standing), [0, 27])
        self.assertEqual(frames.formed(make, standing), [1])
        self.assertEqual(frames.rank(make, standing), [0, 0])
        make[0] = 1
        self.assertEqual(frames.judge(make), [-5, 2, 0])
        make.pop()
        self.assertEqual(frames.span(make), [-5, 1, 0])

    def test_nothing_is_printed(self):
        out, err = io.StringIO(), io.StringIO()
        with contextlib.redirect_stdout(out), contextlib.redirect_stderr(err):
            for call, arguments in each_call():
                call(*copied(arguments))
        self.assertEqual(out.getvalue() + err.getvalue(), "")

    def test_a_faulty_make_is_refused_whatever_else_is_handed_in(self):
        numbers = (0, 1, HUNDRED_FIGURES)
        others = {"value": numbers, "k": numbers, "standing": ([], [0, 0, 0], [LARGEST] * 300)}
        for name, parameters, several in CALLS:
            call = getattr(frames, name)
            for make, refusal in NO_MAKES:
                for other in range(3):
                    handed = {name: others[name][other] for name in parameters if name != "make"}
                    self.assertEqual(call(make=list(make), **handed), refusal, (name, make, handed))


if __name__ == "__main__":
    unittest.main()
