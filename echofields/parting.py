"""Orders of one beginning that have several ends."""

from echofields.codes import codes_behind, filling_of, in_order, is_over, moment_of, plan_of
from echofields.evidence import end_or_none, is_asked, rows_read
from echofields.forms import fillings
from echofields.kinds import are_whole, is_tuple_of
from echofields.orders import code_behind, end_bits, first_order, over_codes
from echofields.reaches import beginning_at, check_reach, firings_from, start_at, start_codes, starts_of


def ends_of(form, filling, edit):
    """Return the ascending tuple of the ends of all whole orders from a beginning."""
    plan = plan_of(form)
    firings = firings_from(plan, [start_at(form, plan, filling, edit)])
    return tuple(sorted({filling_of(plan, code) for code in over_codes(firings)}))


def find_parting(form, *, calm=False):
    """Return the least asked beginning with two ends and an order to each, or the end of all moments."""
    plan = plan_of(form)
    starts = starts_of(form, plan, calm)
    firings = firings_from(plan, list(starts.values()))
    bits = end_bits(plan, firings)
    # Where there is more than one bit, some are left without the lowest one.
    found = beginning_at(starts, {code: True for code in firings if bits[code] & (bits[code] - 1) != 0})
    if found is None:
        rows = fillings(form)
        return ("ends", tuple([(moment_of(plan, code), _only_end(rows, bits[code])) for code in in_order(plan, bits)]))
    filling, edit = found
    one, other = _parting_orders(plan, firings, starts[found])
    return ("orders", filling, edit, one, other)


def parting_holds(form, value, *, calm=False):
    """Tell whether value is evidence of a beginning with two ends, or that there is none."""
    check_reach(form, calm)
    if is_tuple_of(value, 5) and value[0] == "orders":
        _, filling, edit, one, other = value
        return is_asked(form, filling, edit, calm) and _do_part(form, filling, edit, one, other)
    if is_tuple_of(value, 2) and value[0] == "ends":
        plan = plan_of(form)
        return _are_ends(plan, start_codes(form, plan, calm), value[1])
    return False


def _only_end(rows, bits):
    return None if bits == 0 else rows[bits.bit_length() - 1]


def _parting_orders(plan, firings, start):
    """Return the first whole order of all, and the first one of those with another end."""
    over = over_codes(firings)
    one = first_order(firings, start, {code: True for code in over})
    end = filling_of(plan, code_behind(firings, start, one))
    return (one, first_order(firings, start, {code: True for code in over if filling_of(plan, code) != end}))


def _do_part(form, filling, edit, one, other):
    ends = [end_or_none(form, filling, edit, order) for order in (one, other)]
    return None not in ends and ends[0] != ends[1]


def _are_ends(plan, starts, value):
    """Tell whether value has rows of moments and ends that show that no two runs from a start end otherwise."""
    ends = rows_read(plan, value)
    if ends is None or not all([start in ends for start in starts]):
        return False
    _, numbers, _, _, _, _ = plan
    if not all([end is None or _is_among(numbers, end) for end in ends.values()]):
        return False
    if not all([end == filling_of(plan, code) for code, end in ends.items() if is_over(code)]):
        return False
    return all([
        ends.get(behind, False) in (end, None) for code, end in ends.items() for behind in codes_behind(plan, code)
    ])


def _is_among(rows, value):
    """Tell whether value is one of the fillings that are the keys of a dict."""
    return isinstance(value, tuple) and are_whole(value) and value in rows
