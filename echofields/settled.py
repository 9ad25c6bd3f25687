"""Settled forms: each edit leads each filling to one filling, whatever order is taken."""

from echofields.bounds import MAX_ROW
from echofields.codes import number_of, plan_of, waking_start_codes
from echofields.errors import BadEdit, BadEdits, Unsettled
from echofields.falls import fall
from echofields.forms import all_edits, check_filling, fillings, is_edit, is_filling
from echofields.kinds import is_ascending, is_natural, is_tuple_of
from echofields.orders import spread
from echofields.reaches import check_reach, starts_of


def find_unsettled(form):
    """Return the least beginning from which a run is endless or that has two ends, None if there is none."""
    check_reach(form, False)
    plan = plan_of(form)
    return None if _settled_ends(plan) is not None else _least_unsettled(form, plan)


def led_to(form, filling, edits):
    """Return the filling to which a row of edits leads."""
    check_filling(form, filling)
    _check_row(form, edits)
    return _led_by(_leads_of(form), filling, edits)


def find_row(form, filling, goal):
    """Return the shortest row of edits from a filling to a goal with all distances, or all to which rows lead."""
    check_filling(form, filling)
    check_filling(form, goal)
    leads = _leads_of(form)
    far = _distances(leads, goal)
    if filling not in far:
        return ("closed", tuple(sorted(spread(_steps(leads), (filling,)))))
    edits = []
    at = filling
    while at != goal:
        # The least edit of those that lead nearer begins the smallest of the shortest rows.
        edit = min([edit for edit in all_edits(form) if far.get(leads[(at, edit)]) == far[at] - 1])
        edits.append(edit)
        at = leads[(at, edit)]
    return ("row", tuple(edits), tuple([far.get(row) for row in fillings(form)]))


def row_holds(form, filling, goal, value):
    """Tell whether value is evidence of a row of edits from a filling to a goal, or that there is none."""
    check_filling(form, filling)
    check_filling(form, goal)
    plan, ends = _checked_ends(form)
    if is_tuple_of(value, 3) and value[0] == "row":
        _, edits, numbers = value
        if not _is_row(form, edits) or not _are_numbers(form, numbers):
            return False
        leads = _leads(form, plan, ends)
        far = dict(zip(fillings(form), numbers))
        told = far[goal] == 0 and far[filling] == len(edits)
        return told and _led_by(leads, filling, edits) == goal and _are_distances(leads, far)
    if is_tuple_of(value, 2) and value[0] == "closed":
        return _are_fillings(form, value[1]) and _is_closed(_leads(form, plan, ends), filling, goal, value[1])
    return False


def find_swap(form, edit, other):
    """Return the least filling that two edits lead elsewhere in one order than in the other one, None if none."""
    _check_edit(form, edit)
    _check_edit(form, other)
    leads = _leads_of(form)
    for filling in fillings(form):
        if _led_by(leads, filling, (edit, other)) != _led_by(leads, filling, (other, edit)):
            return filling
    return None


def find_stuck(form, edit):
    """Return the least filling to which the edit that takes an edit back does not lead back, None if there is none."""
    _check_edit(form, edit)
    leads = _leads_of(form)
    field, _ = edit
    for filling in fillings(form):
        if _led_by(leads, filling, (edit, (field, filling[field]))) != filling:
            return filling
    return None


def rooms(form):
    """Return the classes of fillings that rows of edits lead to one another, in the order of their least ones."""
    steps = _steps(_leads_of(form))
    led = {filling: spread(steps, (filling,)) for filling in steps}
    classes = [tuple([other for other in led if other in led[row] and row in led[other]]) for row in led]
    return tuple([room for room, row in zip(classes, led) if room[0] == row])


def _checked_ends(form):
    """Return the plan of the form and what _settled_ends returns, or raise TooManyMoments or Unsettled."""
    check_reach(form, False)
    plan = plan_of(form)
    ends = _settled_ends(plan)
    if ends is None:
        filling, edit = _least_unsettled(form, plan)
        raise Unsettled(filling, edit)
    return (plan, ends)


def _settled_ends(plan):
    """Return a dict with the ends of all codes that are reached where something fires, None if it is not settled."""
    left, endless = fall(plan, waking_start_codes(plan))
    if endless is not None:
        return None
    ends = _ends_in(plan, left)
    return None if None in list(ends.values()) else ends


def _least_unsettled(form, plan):
    # This takes longer than the question whether there is one, as beginnings are many and start alike.
    starts = starts_of(form, plan, False)
    left, _ = fall(plan, list(starts.values()))
    ends = _ends_in(plan, left)
    # From the first endless run on, the fall lacks what it has not come to.
    for beginning, code in starts.items():
        if ends.get(code) is None:
            return beginning
    return None


def _ends_in(plan, left):
    """Return a dict with the number of the end of each code of a fall, or None where there are several."""
    ends = {}
    for code, behind in left.items():
        if behind == []:
            ends[code] = number_of(plan, code)
        else:
            told = [ends[other] for other in behind]
            ends[code] = told[0] if told.count(told[0]) == len(told) else None
    return ends


def _leads_of(form):
    """Return what _leads returns, or raise TooManyMoments or Unsettled."""
    plan, ends = _checked_ends(form)
    return _leads(form, plan, ends)


def _leads(form, plan, ends):
    """Return a dict with the filling to which each filling is led by each edit, the keys being the beginnings."""
    rows = fillings(form)
    starts = starts_of(form, plan, False)
    return {beginning: rows[ends.get(code, number_of(plan, code))] for beginning, code in starts.items()}


def _led_by(leads, filling, edits):
    for edit in edits:
        filling = leads[(filling, edit)]
    return filling


def _steps(leads):
    """Return a dict with the list of the fillings to which the edits lead each filling."""
    steps = {}
    for (filling, _), behind in leads.items():
        steps.setdefault(filling, []).append(behind)
    return steps


def _distances(leads, goal):
    """Return a dict with the least number of edits to the goal for each filling that some row leads there."""
    ahead = {}
    for (filling, _), behind in leads.items():
        ahead.setdefault(behind, []).append(filling)
    far = {goal: 0}
    queue = [goal]
    place = 0
    while place < len(queue):
        row = queue[place]
        for earlier in ahead.get(row, []):
            if earlier not in far:
                far[earlier] = far[row] + 1
                queue.append(earlier)
        place = place + 1
    return far


def _check_edit(form, edit):
    if not is_edit(form, edit):
        raise BadEdit(edit)


def _check_row(form, edits):
    if not isinstance(edits, tuple) or len(edits) > MAX_ROW:
        raise BadEdits(None)
    for number, edit in enumerate(edits):
        if not is_edit(form, edit):
            raise BadEdits(number)


def _is_row(form, value):
    return isinstance(value, tuple) and len(value) <= MAX_ROW and all([is_edit(form, edit) for edit in value])


def _are_numbers(form, value):
    """Tell whether value is a tuple with None or an integer from 0 on for each filling."""
    if not is_tuple_of(value, len(fillings(form))):
        return False
    return all([number is None or is_natural(number) for number in value])


def _are_distances(leads, far):
    """Tell whether no edit leads a filling nearer by more than one, as the numbers tell."""
    return all([
        far[behind] is None or (far[filling] is not None and far[filling] <= far[behind] + 1)
        for (filling, _), behind in leads.items()
    ])


def _are_fillings(form, value):
    if not isinstance(value, tuple) or not all([is_filling(form, row) for row in value]):
        return False
    return is_ascending(value)


def _is_closed(leads, filling, goal, rows):
    known = {row: True for row in rows}
    if filling not in known or goal in known:
        return False
    return all([behind in known for (row, _), behind in leads.items() if row in known])
