"""The calls: each answers a list, the answer's or the refusal's number first."""

from beadframes.makes import make_fault, product_of_ratios


def refused_for(fault):
    """Give back the refusal of a faulty list: its number, then the fault's rule and place."""
    return [-5] + fault


def judge(make):
    """Answer 0 if the list is a make, else the refusal with its fault."""
    fault = make_fault(make)
    if len(fault) > 0:
        return refused_for(fault)
    return [0]


def span(make):
    """Answer 0 and the make's span, or the refusal with its fault."""
    fault = make_fault(make)
    if len(fault) > 0:
        return refused_for(fault)
    return [0, product_of_ratios(make)]
