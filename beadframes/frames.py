"""The calls: each answers a list, the answer's or the refusal's number first."""

from beadframes.makes import (
    count_of_standings, digits_of, fewest_standing, is_in_form, make_fault, number_of_standing, numbered_standing,
    product_of_ratios, standing_fault, standing_in_form, value_of,
)


def refused_for(fault):
    """Give back the refusal for a fault, its rule and place behind it, or an empty list if there's no fault."""
    if len(fault) == 0:
        return []
    return [-5] + fault


def make_refusal(make):
    """Give back the refusal of the list as a make, or an empty list."""
    return refused_for(make_fault(make))


def standing_refusal(make, standing):
    """Give back the refusal of the make, else that of the standing on it, or an empty list."""
    refusal = make_refusal(make)
    if len(refusal) > 0:
        return refusal
    return refused_for(standing_fault(make, standing))


def value_refusal(value, make):
    """Give back the refusal of the make, else that of a value not below its span, or an empty list."""
    refusal = make_refusal(make)
    if len(refusal) > 0:
        return refusal
    if value >= product_of_ratios(make):
        return [-4]
    return []


def standing_answer(standing):
    """Give back the answer with a standing that was looked for; an empty list says that there's none such."""
    if len(standing) == 0:
        return [-2]
    return [0] + standing


def judge(make):
    """Answer 0 if the list is a make, else the refusal."""
    refusal = make_refusal(make)
    if len(refusal) > 0:
        return refusal
    return [0]


def span(make):
    """Answer 0 and the make's span, or the refusal."""
    refusal = make_refusal(make)
    if len(refusal) > 0:
        return refusal
    return [0, product_of_ratios(make)]


def value(make, standing):
    """Answer 0 and the value of the standing, or the refusal."""
    refusal = standing_refusal(make, standing)
    if len(refusal) > 0:
        return refusal
    return [0, value_of(make, standing)]


def digits(value, make):
    """Answer 0 and the value's digits, one a rod, rod 0's first, or the refusal."""
    refusal = value_refusal(value, make)
    if len(refusal) > 0:
        return refusal
    return [0] + digits_of(value, make)


def show(value, make):
    """Answer 0 and the value's standing in form, three numbers a rod, rod 0's first, or the refusal."""
    refusal = value_refusal(value, make)
    if len(refusal) > 0:
        return refusal
    return [0] + standing_in_form(value, make)


def formed(make, standing):
    """Answer 1 if the standing is in form, 0 if not, or the refusal."""
    refusal = standing_refusal(make, standing)
    if len(refusal) > 0:
        return refusal
    if is_in_form(make, standing):
        return [1]
    return [0]


def ways(value, make):
    """Answer 0 and how many standings have the value, or the refusal."""
    refusal = make_refusal(make)
    if len(refusal) > 0:
        return refusal
    return [0, count_of_standings(value, make)]


def nth(value, k, make):
    """Answer 0 and the value's k-th standing, from 0, three numbers a rod, rod 0's first, or the refusal."""
    refusal = make_refusal(make)
    if len(refusal) > 0:
        return refusal
    return standing_answer(numbered_standing(value, k, make))


def rank(make, standing):
    """Answer 0 and the standing's number among those of its value, from 0, or the refusal."""
    refusal = standing_refusal(make, standing)
    if len(refusal) > 0:
        return refusal
    return [0, number_of_standing(make, standing)]


def fewest(value, make):
    """Answer 0 and the value's standing with the fewest beads, the first of these, or the refusal."""
    refusal = make_refusal(make)
    if len(refusal) > 0:
        return refusal
    return standing_answer(fewest_standing(value, make))
