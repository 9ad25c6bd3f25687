"""Runs that are endless, and evidence that none is."""

from echofields.evidence import are_rows, asked_in_reach, is_asked, moment_or_none, moments_fired
from echofields.kinds import is_natural, is_tuple_of
from echofields.orders import endless_orders, heights_of
from echofields.reaches import beginnings, first_beginning, firings_from
from echofields.runs import begin


def find_endless(form, *, calm=False):
    """Return the least asked beginning of an endless run with an order and a ring, or the heights of all moments."""
    asked = beginnings(form, calm=calm)
    firings = firings_from(form, asked)
    heights = heights_of(firings)
    endless = {moment: True for moment in firings if moment not in heights}
    found = first_beginning(form, asked, endless)
    if found is None:
        return ("heights", tuple([(moment, heights[moment]) for moment in sorted(heights)]))
    filling, edit = found
    order, ring = endless_orders(firings, begin(form, filling, edit))
    return ("endless", filling, edit, order, ring)


def endless_holds(form, value, *, calm=False):
    """Tell whether value is evidence of an endless run, or that there is none."""
    asked = asked_in_reach(form, calm)
    if is_tuple_of(value, 5) and value[0] == "endless":
        _, filling, edit, order, ring = value
        return is_asked(form, filling, edit, calm) and goes_round(form, filling, edit, order, ring)
    if is_tuple_of(value, 2) and value[0] == "heights":
        return are_heights(form, asked, value[1])
    return False


def goes_round(form, filling, edit, order, ring):
    """Tell whether an order leads from a beginning to a moment to which the ring leads back."""
    moment = moment_or_none(form, begin(form, filling, edit), order)
    return moment is not None and ring != () and moment_or_none(form, moment, ring) == moment


def are_heights(form, asked, value):
    """Tell whether value has rows of moments and integers that show that no asked run is endless."""
    if not are_rows(form, asked, value):
        return False
    if not all([is_natural(height) for _, height in value]):
        return False
    heights = {moment: height for moment, height in value}
    return all([
        behind in heights and heights[behind] < heights[moment]
        for moment in heights for behind in moments_fired(form, moment)
    ])
