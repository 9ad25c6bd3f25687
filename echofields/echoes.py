"""Ends that are not calm, and edits that are overruled by their own echo."""

from echofields.bounds import MAX_MOMENTS, MAX_SIZE
from echofields.evidence import are_closed, asked_in_reach, end_or_none, is_asked, moments_fired
from echofields.forms import is_calm, is_edit
from echofields.kinds import is_ascending, is_tuple_of
from echofields.orders import first_order, moments_ahead, moments_behind, over_moments, spread
from echofields.reaches import beginnings, first_beginning, firings_from, starts_of
from echofields.runs import begin, is_moment


def find_uncalm(form, *, calm=False):
    """Return the least asked beginning with an order to an end that is not calm, or all moments."""
    asked = beginnings(form, calm=calm)
    firings = firings_from(form, asked)
    goals = {moment: True for moment in over_moments(firings) if not is_calm(form, moment[1])}
    found = _first_to(form, asked, firings, goals)
    if found is None:
        return ("closed", tuple(sorted(firings)))
    return found


def uncalm_holds(form, value, *, calm=False):
    """Tell whether value is evidence of an end that is not calm, or that there is none."""
    asked = asked_in_reach(form, calm)
    if is_tuple_of(value, 4):
        end = _end_told(form, value, calm)
        return end is not None and not is_calm(form, end)
    if is_tuple_of(value, 2) and value[0] == "closed":
        return are_closed(form, asked, value[1]) and _end_calm(form, value[1])
    return False


def find_overruled(form, *, calm=False):
    """Return the least asked beginning with an overruled order, or all moments with the values of their edits."""
    asked = beginnings(form, calm=calm)
    firings = firings_from(form, asked)
    groups = _by_value(asked)
    found = []
    for item in groups:
        goals = {moment: True for moment in over_moments(firings) if _overrules(moment, item)}
        told = _first_to(form, groups[item], firings, goals)
        if told is not None:
            found.append(told)
    if found == []:
        return ("closed", _value_rows(form, groups, firings))
    # They differ in their beginnings, so these alone decide.
    return min(found)


def overruled_holds(form, value, *, calm=False):
    """Tell whether value is evidence of an overruled order, or that there is none."""
    asked = asked_in_reach(form, calm)
    if is_tuple_of(value, 4):
        end = _end_told(form, value, calm)
        return end is not None and not _has_value(end, value[2])
    if is_tuple_of(value, 2) and value[0] == "closed":
        return _are_value_rows(form, value[1]) and _stay_ruled(form, asked, value[1])
    return False


def _first_to(form, asked, firings, goals):
    """Return the first of the beginnings from which an order leads to a goal, with the order; None if there is none."""
    found = first_beginning(form, asked, spread(moments_ahead(firings), goals))
    if found is None:
        return None
    filling, edit = found
    return ("order", filling, edit, first_order(firings, begin(form, filling, edit), goals))


def _end_told(form, value, calm):
    """Return the end of the whole order that a tuple of four items tells of an asked beginning, None if it does not."""
    word, filling, edit, order = value
    if word != "order" or not is_asked(form, filling, edit, calm):
        return None
    return end_or_none(form, filling, edit, order)


def _end_calm(form, moments):
    return all([moment[2] != () or is_calm(form, moment[1]) for moment in moments])


def _has_value(filling, edit):
    """Tell whether the edited field has the value that the edit gives it."""
    return filling[edit[0]] == edit[1]


def _overrules(moment, item):
    """Tell whether the run is over at the moment and its edited field has another value than the edit gave it."""
    return moment[2] == () and not _has_value(moment[1], (moment[0], item))


def _by_value(asked):
    """Return a dict with the list of the beginnings for each value that their edits have."""
    groups = {}
    for filling, edit in asked:
        groups.setdefault(edit[1], []).append((filling, edit))
    return groups


def _value_rows(form, groups, firings):
    behind = moments_behind(firings)
    rows = []
    for item in sorted(groups):
        rows.extend([(item, moment) for moment in sorted(spread(behind, starts_of(form, groups[item])))])
    return tuple(rows)


def _are_value_rows(form, value):
    if not isinstance(value, tuple) or len(value) > MAX_SIZE * MAX_MOMENTS:
        return False
    return all([_is_value_row(form, row) for row in value]) and is_ascending(value)


def _is_value_row(form, value):
    if not is_tuple_of(value, 2):
        return False
    item, moment = value
    return is_moment(form, moment) and is_edit(form, (moment[0], item))


def _stay_ruled(form, asked, rows):
    """Tell whether the rows have all that asked runs come to, and no run that is overruled."""
    known = {row: True for row in rows}
    if not all([(edit[1], begin(form, filling, edit)) in known for filling, edit in asked]):
        return False
    if not all([(item, behind) in known for item, moment in rows for behind in moments_fired(form, moment)]):
        return False
    return not any([_overrules(moment, item) for item, moment in rows])
