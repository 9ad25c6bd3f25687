"""Ends that are not calm, and edits that are overruled by their own echo."""

from echofields.bounds import MAX_MOMENTS, MAX_SIZE
from echofields.codes import filling_of, is_over, moment_of, plan_of
from echofields.evidence import are_closed, closed_codes, codes_read, end_or_none, is_asked
from echofields.forms import fillings, rests_at
from echofields.kinds import are_whole, is_ascending, is_tuple_of
from echofields.orders import codes_ahead, first_order, over_codes, spread
from echofields.reaches import beginning_at, check_reach, firings_from, moments_told, start_codes, starts_of


def find_uncalm(form, *, calm=False):
    """Return the least asked beginning with an order to an end that is not calm, or all moments."""
    plan = plan_of(form)
    starts = starts_of(form, plan, calm)
    firings = firings_from(plan, list(starts.values()))
    restless = _restless(form)
    goals = {code: True for code in over_codes(firings) if filling_of(plan, code) in restless}
    found = _first_to(starts, firings, goals)
    if found is None:
        return ("closed", moments_told(plan, firings))
    return found


def uncalm_holds(form, value, *, calm=False):
    """Tell whether value is evidence of an end that is not calm, or that there is none."""
    check_reach(form, calm)
    if is_tuple_of(value, 4):
        end = _end_told(form, value, calm)
        return end is not None and not rests_at(form, end)
    if is_tuple_of(value, 2) and value[0] == "closed":
        plan = plan_of(form)
        codes = closed_codes(plan, start_codes(form, plan, calm), value[1])
        return codes is not None and _end_calm(form, plan, codes)
    return False


def find_overruled(form, *, calm=False):
    """Return the least asked beginning with an overruled order, or all moments with the values of their edits."""
    plan = plan_of(form)
    starts = starts_of(form, plan, calm)
    firings = firings_from(plan, list(starts.values()))
    groups = _by_value(starts)
    found = []
    for item, group in groups.items():
        goals = {code: True for code in over_codes(firings) if _overrules(plan, code, item)}
        told = _first_to(group, firings, goals)
        if told is not None:
            found.append(told)
    if found == []:
        return ("closed", _value_rows(plan, groups, firings))
    # They differ in their beginnings, so these alone decide.
    return min(found)


def overruled_holds(form, value, *, calm=False):
    """Tell whether value is evidence of an overruled order, or that there is none."""
    check_reach(form, calm)
    if is_tuple_of(value, 4):
        end = _end_told(form, value, calm)
        return end is not None and not _has_value(end, value[2])
    if is_tuple_of(value, 2) and value[0] == "closed":
        plan = plan_of(form)
        rows = _rows_by_value(form, plan, value[1])
        return rows is not None and _stay_ruled(plan, _by_value(starts_of(form, plan, calm)), rows)
    return False


def _restless(form):
    """Return a dict whose keys are the fillings that are not calm."""
    return {filling: True for filling in fillings(form) if not rests_at(form, filling)}


def _first_to(starts, firings, goals):
    """Return the first of the beginnings from which an order leads to a goal, with the order; None if there is none."""
    found = beginning_at(starts, spread(codes_ahead(firings), goals))
    if found is None:
        return None
    filling, edit = found
    return ("order", filling, edit, first_order(firings, starts[found], goals))


def _end_told(form, value, calm):
    """Return the end of the whole order that a tuple of four items tells of an asked beginning, None if it does not."""
    word, filling, edit, order = value
    if word != "order" or not is_asked(form, filling, edit, calm):
        return None
    return end_or_none(form, filling, edit, order)


def _end_calm(form, plan, codes):
    restless = _restless(form)
    return not any([is_over(code) and filling_of(plan, code) in restless for code in codes])


def _has_value(filling, edit):
    """Tell whether the edited field has the value that the edit gives it."""
    return filling[edit[0]] == edit[1]


def _overrules(plan, code, item):
    """Tell whether the run is over at the code and its edited field has another value than the edit gave it."""
    field, filling, pending, _ = moment_of(plan, code)
    return pending == () and filling[field] != item


def _by_value(starts):
    """Return a dict with the beginnings for each value that their edits have, and the code at which each starts."""
    groups = {}
    for beginning, code in starts.items():
        groups.setdefault(beginning[1][1], {})[beginning] = code
    return groups


def _value_rows(plan, groups, firings):
    behind = {code: list(firings[code].values()) for code in firings}
    rows = []
    for item in sorted(groups):
        reached = spread(behind, list(groups[item].values()))
        rows.extend([(item, moment) for moment in moments_told(plan, reached)])
    return tuple(rows)


def _rows_by_value(form, plan, value):
    """Return a dict with the codes that stand beside each value, None if value has not ascending pairs of such."""
    if not isinstance(value, tuple) or len(value) > MAX_SIZE * MAX_MOMENTS:
        return None
    if not all([is_tuple_of(row, 2) for row in value]):
        return None
    codes = codes_read(plan, [row[1] for row in value])
    if codes is None or not are_whole([item for item, _ in value]):
        return None
    if not all([0 <= item < form[0][moment[0]] for item, moment in value]) or not is_ascending(value):
        return None
    groups = {}
    for (item, _), code in zip(value, codes):
        groups.setdefault(item, []).append(code)
    return groups


def _stay_ruled(plan, asked, rows):
    """Tell whether the rows have all that asked runs come to, and no run that is overruled."""
    if not all([item in rows for item in asked]):
        return False
    for item, codes in rows.items():
        if not are_closed(plan, list(asked.get(item, {}).values()), codes):
            return False
        if any([is_over(code) and _overrules(plan, code, item) for code in codes]):
            return False
    return True
