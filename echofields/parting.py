"""Orders of one beginning that have several ends."""

from echofields.evidence import are_rows, asked_in_reach, end_or_none, is_asked, moments_fired
from echofields.forms import is_filling
from echofields.kinds import is_tuple_of
from echofields.orders import first_order, moments_ahead, over_moments, spread
from echofields.reaches import beginnings, first_beginning, firings_from
from echofields.runs import begin


def ends_of(form, filling, edit):
    """Return the ascending tuple of the ends of all whole orders from a beginning."""
    return _ends_at(over_moments(firings_from(form, ((filling, edit),))))


def find_parting(form, *, calm=False):
    """Return the least asked beginning with two ends and an order to each, or the end of all moments."""
    asked = beginnings(form, calm=calm)
    firings = firings_from(form, asked)
    ends = _ends_behind(firings)
    parted = {moment: True for moment in firings if len(ends[moment]) > 1}
    found = first_beginning(form, asked, parted)
    if found is None:
        return ("ends", tuple([(moment, _only_end(ends[moment])) for moment in sorted(firings)]))
    filling, edit = found
    one, other = _parting_orders(firings, begin(form, filling, edit))
    return ("orders", filling, edit, one, other)


def parting_holds(form, value, *, calm=False):
    """Tell whether value is evidence of a beginning with two ends, or that there is none."""
    asked = asked_in_reach(form, calm)
    if is_tuple_of(value, 5) and value[0] == "orders":
        _, filling, edit, one, other = value
        return is_asked(form, filling, edit, calm) and _do_part(form, filling, edit, one, other)
    if is_tuple_of(value, 2) and value[0] == "ends":
        return _are_ends(form, asked, value[1])
    return False


def _ends_at(moments):
    return tuple(sorted({moment[1] for moment in moments}))


def _ends_behind(firings):
    """Return a dict with the ascending tuple of the ends of all whole orders from each moment."""
    ahead = moments_ahead(firings)
    over = over_moments(firings)
    ends = {moment: () for moment in firings}
    for end in _ends_at(over):
        for moment in spread(ahead, [last for last in over if last[1] == end]):
            ends[moment] = ends[moment] + (end,)
    return ends


def _only_end(ends):
    return None if ends == () else ends[0]


def _parting_orders(firings, start):
    over = over_moments(firings)
    one = first_order(firings, start, {moment: True for moment in over})
    end = _end_behind(firings, start, one)
    other = first_order(firings, start, {moment: True for moment in over if moment[1] != end})
    return (one, other)


def _end_behind(firings, moment, order):
    for link in order:
        moment = firings[moment][link]
    return moment[1]


def _do_part(form, filling, edit, one, other):
    ends = [end_or_none(form, filling, edit, order) for order in (one, other)]
    return None not in ends and ends[0] != ends[1]


def _are_ends(form, asked, value):
    if not are_rows(form, asked, value):
        return False
    if not all([end is None or is_filling(form, end) for _, end in value]):
        return False
    ends = {moment: end for moment, end in value}
    return all([_is_kept(form, ends, moment) for moment in ends])


def _is_kept(form, ends, moment):
    """Tell whether the end that is told for a moment fits what is told for the moments right behind it."""
    end = ends[moment]
    if moment[2] == ():
        return end == moment[1]
    return all([behind in ends and ends[behind] in (end, None) for behind in moments_fired(form, moment)])
