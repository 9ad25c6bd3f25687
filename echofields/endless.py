"""Runs that are endless, and evidence that none is."""

from echofields.codes import plan_of
from echofields.evidence import are_heights, goes_on
from echofields.falls import fall, heights_told
from echofields.kinds import is_tuple_of
from echofields.orders import endless_orders
from echofields.reaches import beginning_at, check_reach, firings_from, start_codes, starts_of


def find_endless(form, *, calm=False):
    """Return the least asked beginning of an endless run with an order and a ring, or the heights of all moments."""
    check_reach(form, calm)
    plan = plan_of(form)
    starts = starts_of(form, plan, calm)
    left, endless = fall(plan, list(starts.values()))
    if endless is None:
        return ("heights", heights_told(plan, left))
    filling, edit = beginning_at(starts, (endless,))
    order, ring = endless_orders(firings_from(plan, [endless]), endless)
    return ("endless", filling, edit, order, ring)


def endless_beginning(form, calm):
    """Return the least asked beginning from which a run is endless, None if there is none."""
    check_reach(form, calm)
    plan = plan_of(form)
    starts = starts_of(form, plan, calm)
    _, endless = fall(plan, list(starts.values()))
    return None if endless is None else beginning_at(starts, (endless,))


def endless_holds(form, value, *, calm=False):
    """Tell whether value is evidence of an endless run, or that there is none."""
    check_reach(form, calm)
    if is_tuple_of(value, 2) and value[0] == "heights":
        plan = plan_of(form)
        return are_heights(plan, start_codes(form, plan, calm), value[1])
    return goes_on(form, value, calm)
