"""Forms that come to the same, and links that can be left out."""

from echofields.codes import filling_of, is_over, number_of, plan_of, start_code
from echofields.errors import UnlikeForms
from echofields.evidence import are_heights, closed_codes, end_or_none, goes_round, is_asked
from echofields.falls import fall, heights_told
from echofields.forms import left_out
from echofields.kinds import is_index, is_tuple_of
from echofields.orders import end_bits, endless_codes, endless_orders, first_order, over_codes
from echofields.parts import is_part, sets_of
from echofields.reaches import check_reach, codes_from, firings_from, moments_told, starts_of


def find_difference(one, other):
    """Return evidence of how two forms differ at the least beginning at which they do, None if they are alike."""
    _check_sizes(one, other)
    ones = _comings(one)
    others = _comings(other)
    for beginning in ones:
        if ones[beginning] != others[beginning]:
            return _difference_at((one, other), beginning, ones[beginning], others[beginning])
    return None


def difference_holds(one, other, value):
    """Tell whether value is evidence that two forms are not alike."""
    _check_sizes(one, other)
    check_reach(one, False)
    check_reach(other, False)
    if is_tuple_of(value, 7) and value[0] == "endless":
        _, filling, edit, which, order, ring, rows = value
        if not is_asked(one, filling, edit, False) or not is_index(which, 2):
            return False
        plan = plan_of((other, one)[which])
        return goes_round((one, other)[which], filling, edit, order, ring) and are_heights(
            plan, (start_code(plan, filling, edit),), rows)
    if is_tuple_of(value, 6) and value[0] == "end":
        _, filling, edit, which, order, moments = value
        if not is_asked(one, filling, edit, False) or not is_index(which, 2):
            return False
        end = end_or_none((one, other)[which], filling, edit, order)
        return end is not None and _never_ends((other, one)[which], filling, edit, end, moments)
    return False


def idle_links(form):
    """Return the ascending tuple of the links each of which can be left out alone, so that the form stays alike."""
    told = _comings(form)
    return tuple([link for link in range(len(form[1])) if _comings(left_out(form, (link,))) == told])


def idle_sets(form):
    """Return the ascending tuple of the greatest sets of links that can be left out together."""
    told = _comings(form)
    found = []
    # Each set comes ahead of its parts.
    for links in sets_of(list(range(len(form[1]))))[::-1]:
        if not any([is_part(links, other) for other in found]) and _comings(left_out(form, links)) == told:
            found.append(links)
    return tuple(sorted(found))


def _check_sizes(one, other):
    if one[0] != other[0]:
        raise UnlikeForms()


def _comings(form):
    """Return a dict with what each beginning comes to: the bits of its ends, and whether a run is endless from it."""
    plan = plan_of(form)
    starts = starts_of(form, plan, False)
    firings = firings_from(plan, list(starts.values()))
    bits = end_bits(plan, firings)
    endless = endless_codes(firings)
    return {beginning: (bits[code], code in endless) for beginning, code in starts.items()}


def _difference_at(forms, beginning, one, other):
    """Return the evidence for a beginning at which two forms come to something different."""
    filling, edit = beginning
    if one[1] != other[1]:
        which = 0 if one[1] else 1
        order, ring = _endless_at(forms[which], filling, edit)
        plan = plan_of(forms[1 - which])
        left, _ = fall(plan, (start_code(plan, filling, edit),))
        return ("endless", filling, edit, which, order, ring, heights_told(plan, left))
    differing = one[0] ^ other[0]
    # This takes all bits from a number but the lowest one.
    end = differing & -differing
    which = 0 if one[0] & end != 0 else 1
    order = _order_to(forms[which], filling, edit, end)
    plan = plan_of(forms[1 - which])
    moments = moments_told(plan, codes_from(plan, (start_code(plan, filling, edit),)))
    return ("end", filling, edit, which, order, moments)


def _endless_at(form, filling, edit):
    """Return the order to a ring and the ring for a beginning from which a run is endless."""
    plan = plan_of(form)
    start = start_code(plan, filling, edit)
    return endless_orders(firings_from(plan, (start,)), start)


def _order_to(form, filling, edit, end):
    """Return the first whole order from a beginning to the end that has this bit."""
    plan = plan_of(form)
    start = start_code(plan, filling, edit)
    firings = firings_from(plan, (start,))
    goals = {code: True for code in over_codes(firings) if 1 << number_of(plan, code) == end}
    return first_order(firings, start, goals)


def _never_ends(form, filling, edit, end, value):
    """Tell whether value has moments that show that no whole order from a beginning has this end."""
    plan = plan_of(form)
    codes = closed_codes(plan, (start_code(plan, filling, edit),), value)
    return codes is not None and not any([is_over(code) and filling_of(plan, code) == end for code in codes])
