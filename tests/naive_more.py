"""The words of the document's point B8 and of its sections C, D and E once more, as plainly and slowly as can be."""

import itertools

from tests import naive
from tests.naive import is_filling, is_integer, is_one_of, is_tuple, is_value


# Rules of firing.

def rule_pairs(form, filling, edit, rule):
    """Return the list of the pairs of a moment and a line, up to the one at which the run is over or comes again."""
    moment = naive.begin(form, filling, edit)
    line = list(moment[2])
    pairs = [(moment, tuple(line))]
    while line and pairs[-1] not in pairs[:-1]:
        moment = naive.fire(form, moment, line.pop(0))
        woken = sorted(set(moment[2]) - set(line))
        line = {"queue": line + woken, "stack": woken + line, "least": sorted(line + woken)}[rule]
        pairs.append((moment, tuple(line)))
    return pairs


def run_by(form, filling, edit, rule):
    pairs = rule_pairs(form, filling, edit, rule)
    order = tuple(line[0] for _, line in pairs[:-1])
    if not pairs[-1][1]:
        return ("end", pairs[-1][0][1], order)
    return ("endless", order[:pairs.index(pairs[-1])], order[pairs.index(pairs[-1]):])


def rules_part(form, one, other, calm=False):
    for filling, edit in naive.asked(form, calm):
        ends = [run_by(form, filling, edit, rule) for rule in (one, other)]
        ends = [found[1] if found[0] == "end" else None for found in ends]
        if ends[0] != ends[1]:
            return (filling, edit)
    return None


# What fields tell.

def calm_fillings(form):
    return tuple(filling for filling in naive.all_fillings(form) if naive.is_calm(form, filling))


def at(filling, fields):
    return tuple(filling[field] for field in fields)


def parts_of(items):
    """Return all sets of some items, as ascending tuples."""
    return [part for many in range(len(items) + 1) for part in itertools.combinations(sorted(items), many)]


def least(sets):
    return tuple(sorted(one for one in set(sets) if not any(set(other) < set(one) for other in sets)))


def is_told(form, fields, field):
    beside = {}
    for filling in calm_fillings(form):
        beside.setdefault(at(filling, fields), set()).add(filling[field])
    return all(len(values) == 1 for values in beside.values())


def find_telling(form, fields, field):
    if is_told(form, fields, field):
        return ("told", tuple(sorted({(at(filling, fields), filling[field]) for filling in calm_fillings(form)})))
    pairs = [(one, other) for one in calm_fillings(form) for other in calm_fillings(form)]
    return ("parted",) + min(pair for pair in pairs if do_part(fields, field, *pair))


def do_part(fields, field, one, other):
    return at(one, fields) == at(other, fields) and one[field] != other[field]


def telling_holds(form, fields, field, value):
    if is_tuple(value, 3) and value[0] == "parted":
        good = all(is_filling(form, row) and naive.is_calm(form, row) for row in value[1:])
        return good and do_part(fields, field, *value[1:])
    if not is_tuple(value, 2) or value[0] != "told" or not is_tuple(value[1]):
        return False
    for row in value[1]:
        if not is_tuple(row, 2) or not is_tuple(row[0], len(fields)) or not is_value(form, field, row[1]):
            return False
        if not all(is_value(form, *pair) for pair in zip(fields, row[0])):
            return False
    rows = list(value[1])
    if rows != sorted(rows) or len({values for values, _ in rows}) != len(rows):
        return False
    return all((at(filling, fields), filling[field]) in rows for filling in calm_fillings(form))


def tellers(form, field):
    others = set(range(len(form[0]))) - {field}
    return least([fields for fields in parts_of(others) if is_told(form, fields, field)])


def least_keys(form):
    every = range(len(form[0]))
    return least([fields for fields in parts_of(every) if all(is_told(form, fields, field) for field in every)])


def least_differences(form):
    pairs = itertools.combinations(calm_fillings(form), 2)
    return least([tuple(field for field in range(len(one)) if one[field] != other[field]) for one, other in pairs])


# Settled forms.

def find_unsettled(form):
    for beginning, (ends, endless) in comings(form).items():
        if endless or len(ends) != 1:
            return beginning
    return None


def all_leads(form):
    """Return a dict with the filling to which each edit leads each filling of a settled form."""
    found = {}
    for filling, edit in naive.asked(form):
        moment = naive.begin(form, filling, edit)
        while moment[2]:
            # Any link will do; the others take the least one.
            moment = naive.fire(form, moment, moment[2][-1])
        found[filling, edit] = moment[1]
    return found


def led_by(leads, filling, edits):
    for edit in edits:
        filling = leads[filling, edit]
    return filling


def distances(form, leads, goal):
    """Return for each filling how many edits lead it to the goal, None if none do."""
    rows = naive.all_fillings(form)
    far = {row: 0 if row == goal else None for row in rows}
    for _ in rows:
        for (row, _), behind in leads.items():
            if far[behind] is not None and (far[row] is None or far[row] > far[behind] + 1):
                far[row] = far[behind] + 1
    return far


def led_from(leads, filling):
    found = {filling}
    while True:
        more = found | {behind for (row, _), behind in leads.items() if row in found}
        if more == found:
            return found
        found = more


def find_row(form, filling, goal):
    leads = all_leads(form)
    far = distances(form, leads, goal)
    if far[filling] is None:
        return ("closed", tuple(sorted(led_from(leads, filling))))
    rows = {(): filling}
    # All rows with the fewest edits from there on, as far as they come nearer with each edit.
    for left in range(far[filling], 0, -1):
        rows = {row + (edit,): leads[at, edit] for row, at in rows.items() for edit in naive.all_edits(form)
                if far[leads[at, edit]] == left - 1}
    return ("row", min(rows), tuple(far[row] for row in naive.all_fillings(form)))


def row_holds(form, filling, goal, value, leads=None):
    leads = leads or all_leads(form)
    rows = naive.all_fillings(form)
    if is_tuple(value, 3) and value[0] == "row":
        _, edits, numbers = value
        if not is_tuple(edits) or not all(naive.is_edit(form, edit) for edit in edits):
            return False
        if not is_tuple(numbers, len(rows)) or led_by(leads, filling, edits) != goal:
            return False
        if not all(number is None or is_integer(number) and number >= 0 for number in numbers):
            return False
        far = dict(zip(rows, numbers))
        if far[goal] != 0 or far[filling] != len(edits):
            return False
        return not any(far[to] is not None and (far[row] is None or far[row] > far[to] + 1)
                       for (row, _), to in leads.items())
    if not is_tuple(value, 2) or value[0] != "closed" or not is_tuple(value[1]):
        return False
    if not all(is_filling(form, row) for row in value[1]) or list(value[1]) != sorted(set(value[1])):
        return False
    return filling in value[1] and goal not in value[1] and led_from_all(leads, value[1]) == set(value[1])


def led_from_all(leads, rows):
    return set().union(*[led_from(leads, row) for row in rows])


def find_swap(form, edit, other):
    leads = all_leads(form)
    rows = naive.all_fillings(form)
    return min([row for row in rows if led_by(leads, row, (edit, other)) != led_by(leads, row, (other, edit))],
               default=None)


def find_stuck(form, edit):
    leads = all_leads(form)
    rows = naive.all_fillings(form)
    return min([row for row in rows if led_by(leads, row, (edit, (edit[0], row[edit[0]]))) != row], default=None)


def rooms(form):
    leads = all_leads(form)
    rows = naive.all_fillings(form)
    led = {row: led_from(leads, row) for row in rows}
    return tuple(sorted({tuple(other for other in rows if other in led[row] and row in led[other]) for row in rows}))


# Forms that come to the same.

def comings(form):
    """Return for each beginning the list of its ends, and whether a run is endless from it."""
    found = naive.reach(form, naive.asked(form))
    bad = naive.endless_moments(found)
    told = {}
    for beginning in naive.asked(form):
        start = naive.begin(form, *beginning)
        told[beginning] = (naive.ends(found, start), start in bad)
    return told


def find_difference(one, other):
    ones, others = comings(one), comings(other)
    for beginning in naive.asked(one):
        (ends, endless), (other_ends, other_endless) = ones[beginning], others[beginning]
        if endless != other_endless:
            return endless_difference((one, other), beginning, 0 if endless else 1)
        if ends != other_ends:
            end = min(set(ends) ^ set(other_ends))
            return end_difference((one, other), beginning, 0 if end in ends else 1, end)
    return None


def endless_difference(forms, beginning, which):
    found = naive.reach(forms[which], [beginning])
    order, ring = naive.endless_orders(found, naive.begin(forms[which], *beginning))
    rows = sorted(naive.heights(naive.reach(forms[1 - which], [beginning])).items())
    return ("endless", *beginning, which, order, ring, tuple(rows))


def end_difference(forms, beginning, which, end):
    found = naive.reach(forms[which], [beginning])
    goals = [moment for moment in found if not moment[2] and moment[1] == end]
    order = naive.shortest(found, naive.begin(forms[which], *beginning), goals)
    return ("end", *beginning, which, order, tuple(sorted(naive.reach(forms[1 - which], [beginning]))))


def difference_holds(one, other, value):
    if is_tuple(value, 7) and value[0] == "endless":
        _, filling, edit, which, order, ring, rows = value
    elif is_tuple(value, 6) and value[0] == "end":
        _, filling, edit, which, order, moments = value
    else:
        return False
    if not is_filling(one, filling) or not naive.is_edit(one, edit) or not is_one_of(which, (0, 1)):
        return False
    forms = (one, other) if which == 0 else (other, one)
    start = naive.begin(forms[1], filling, edit)
    if value[0] == "endless":
        moment = naive.last(forms[0], naive.begin(forms[0], filling, edit), order)
        goes_round = moment is not None and ring != () and naive.last(forms[0], moment, ring) == moment
        return goes_round and are_heights(forms[1], start, rows)
    end = naive.whole_end(forms[0], filling, edit, order)
    if end is None or not are_moments(forms[1], moments) or start not in moments:
        return False
    known = set(moments)
    if any(not moment[2] and moment[1] == end for moment in moments):
        return False
    return all(step in known for moment in moments for step in naive.steps(forms[1], moment))


def are_heights(form, start, rows):
    if not is_tuple(rows) or not all(is_tuple(row, 2) for row in rows):
        return False
    if not are_moments(form, tuple(moment for moment, _ in rows)):
        return False
    if not all(is_integer(height) and height >= 0 for _, height in rows):
        return False
    high = dict(rows)
    if start not in high:
        return False
    return all(step in high and high[step] < high[moment] for moment in high for step in naive.steps(form, moment))


def are_moments(form, value):
    if not is_tuple(value) or len(value) > 3000 or not all(naive.is_moment(form, moment) for moment in value):
        return False
    return list(value) == sorted(set(value))


def left_out(form, links):
    return (form[0], tuple(row for link, row in enumerate(form[1]) if link not in links))


def are_alike(one, other):
    return comings(one) == comings(other)


def idle_links(form):
    return tuple(link for link in range(len(form[1])) if are_alike(form, left_out(form, (link,))))


def idle_sets(form):
    idle = [links for links in parts_of(range(len(form[1]))) if are_alike(form, left_out(form, links))]
    return tuple(sorted(one for one in idle if not any(set(one) < set(other) for other in idle)))
