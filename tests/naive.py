"""The words of the document's sections A and B once more, as plainly and slowly as can be, to compare with."""

import random


def is_integer(value):
    return value.__class__ is int


def is_tuple(value, many=None):
    return value.__class__ is tuple and many in (None, len(value))


def is_one_of(value, allowed):
    return is_integer(value) and value in allowed


def is_value(form, field, value):
    return is_one_of(value, range(form[0][field]))


def is_filling(form, value):
    return is_tuple(value, len(form[0])) and all(is_value(form, field, item) for field, item in enumerate(value))


def is_edit(form, value):
    return is_tuple(value, 2) and is_one_of(value[0], range(len(form[0]))) and is_value(form, *value)


def is_links(form, value):
    if not is_tuple(value) or not all(is_one_of(link, range(len(form[1]))) for link in value):
        return False
    return list(value) == sorted(set(value))


def is_moment(form, value):
    if not is_tuple(value, 4) or not is_one_of(value[0], range(len(form[0]))):
        return False
    if not (is_filling(form, value[1]) and is_links(form, value[2]) and is_links(form, value[3])):
        return False
    return not set(value[2]) & set(value[3]) and all(form[1][link][3] in (1, 3) for link in value[3])


def is_calm(form, filling):
    return all(table[filling[source]] in (None, filling[target]) for source, target, table, _ in form[1])


def all_fillings(form):
    rows = [()]
    for size in form[0]:
        rows = [row + (value,) for row in rows for value in range(size)]
    return rows


def all_edits(form):
    return [(field, value) for field, size in enumerate(form[0]) for value in range(size)]


def asked(form, calm=False):
    rows = all_fillings(form)
    return [(row, edit) for row in rows if is_calm(form, row) or not calm for edit in all_edits(form)]


def begin(form, filling, edit):
    field, value = edit
    behind = list(filling)
    behind[field] = value
    woken = {link for link, (source, _, _, _) in enumerate(form[1]) if source == field}
    return (field, tuple(behind), tuple(sorted(woken)) if tuple(behind) != filling else (), ())


def fire(form, moment, link):
    field, filling, pending, spent = moment
    source, target, table, guard = form[1][link]
    pending, spent, behind = set(pending), set(spent), list(filling)
    pending.remove(link)
    if guard in (1, 3):
        spent.add(link)
    wished = table[filling[source]]
    if not (wished is None or wished == filling[target] or (guard in (2, 3) and target == field)):
        behind[target] = wished
        for other, row in enumerate(form[1]):
            if row[0] == target and other not in spent:
                pending.add(other)
    return (field, tuple(behind), tuple(sorted(pending)), tuple(sorted(spent)))


def walk(form, moment, order):
    """Return the moments along an order, as far as its links are pending."""
    moments = [moment]
    for link in order:
        if not is_one_of(link, moments[-1][2]):
            break
        moments.append(fire(form, moments[-1], link))
    return moments


def last(form, moment, value, most=3000):
    """Return the moment behind what is an order from a moment; None for what is none, or is too long."""
    if not is_tuple(value) or len(value) > most:
        return None
    moments = walk(form, moment, value)
    return moments[-1] if len(moments) == len(value) + 1 else None


def reach(form, beginnings):
    """Return a dict of all moments that are reached, with a dict of their firings each."""
    found = {}
    fresh = {begin(form, *beginning) for beginning in beginnings}
    while fresh:
        for moment in fresh:
            found[moment] = {link: fire(form, moment, link) for link in moment[2]}
        fresh = {behind for moment in fresh for behind in found[moment].values()} - set(found)
    return found


def distances(found, goals):
    """Return for each moment from which an order leads to a goal how many links the shortest one has."""
    far = {moment: 0 for moment in goals}
    many = -1
    while many != len(far):
        many = len(far)
        behind = dict(far)
        for moment in found:
            if moment not in far and any(step in behind for step in found[moment].values()):
                far[moment] = 1 + min(behind[step] for step in found[moment].values() if step in behind)
    return far


def shortest(found, start, goals):
    """Return the order with the fewest links, then the smallest, from start to a goal; None if there is none."""
    far = distances(found, goals)
    if start not in far:
        return None
    order = ()
    while far[start] > 0:
        link = min(link for link, step in found[start].items() if far.get(step) == far[start] - 1)
        order += (link,)
        start = found[start][link]
    return order


def endless_moments(found):
    """Return the moments from which a run is endless: those that are left when all that come to rest are taken out."""
    left = set(found)
    while True:
        gone = {moment for moment in left if not any(step in left for step in found[moment].values())}
        if not gone:
            return left
        left -= gone


def heights(found):
    """Return the heights of all moments, where no run is endless."""
    high = {moment: 0 for moment in found}
    while True:
        new = {moment: max([high[step] + 1 for step in found[moment].values()], default=0) for moment in found}
        if new == high:
            return high
        high = new


def on_rings(found):
    """Return the moments to which an order of a link or more leads back."""
    return {moment for moment in found if any(moment in below(found, step) for step in found[moment].values())}


def below(found, start):
    """Return the moments to which orders lead from one, itself among them."""
    seen = set()
    fresh = {start}
    while fresh:
        seen |= fresh
        fresh = {step for moment in fresh for step in found[moment].values()} - seen
    return seen


def ends(found, start):
    return sorted({moment[1] for moment in below(found, start) if not moment[2]})


def whole_orders(found, start):
    """Return the ascending list of all whole orders, where no run is endless."""
    if not found[start]:
        return [()]
    return [(link,) + rest for link in sorted(found[start]) for rest in whole_orders(found, found[start][link])]


def endless_orders(found, start):
    """Return the order to a ring and the ring for a moment from which a run is endless."""
    order = shortest(found, start, on_rings(found))
    for link in order:
        start = found[start][link]
    rings = [(link, shortest(found, step, {start})) for link, step in found[start].items()]
    rings = [(link,) + rest for link, rest in rings if rest is not None]
    return order, min(rings, key=lambda ring: (len(ring), ring))


def find_endless(form, calm=False):
    found = reach(form, asked(form, calm))
    bad = endless_moments(found)
    for filling, edit in asked(form, calm):
        start = begin(form, filling, edit)
        if start in bad:
            return ("endless", filling, edit) + endless_orders(reach(form, [(filling, edit)]), start)
    return ("heights", tuple(sorted(heights(found).items())))


def find_parting(form, calm=False):
    found = reach(form, asked(form, calm))
    for filling, edit in asked(form, calm):
        start = begin(form, filling, edit)
        if len(ends(found, start)) > 1:
            over = [moment for moment in found if not moment[2]]
            one = shortest(found, start, over)
            end = last(form, start, one)[1]
            return ("orders", filling, edit, one, shortest(found, start, [row for row in over if row[1] != end]))
    return ("ends", tuple((moment, (ends(found, moment) or [None])[0]) for moment in sorted(found)))


def find_uncalm(form, calm=False):
    found = reach(form, asked(form, calm))
    for filling, edit in asked(form, calm):
        start = begin(form, filling, edit)
        goals = [moment for moment in below(found, start) if not moment[2] and not is_calm(form, moment[1])]
        if goals:
            return ("order", filling, edit, shortest(found, start, goals))
    return ("closed", tuple(sorted(found)))


def find_overruled(form, calm=False):
    found = reach(form, asked(form, calm))
    rows = set()
    for filling, edit in asked(form, calm):
        start = begin(form, filling, edit)
        goals = [moment for moment in below(found, start) if not moment[2] and moment[1][edit[0]] != edit[1]]
        if goals:
            return ("order", filling, edit, shortest(found, start, goals))
        rows |= {(edit[1], moment) for moment in below(found, start)}
    return ("closed", tuple(sorted(rows)))


def is_asked(form, calm, filling, edit):
    return is_filling(form, filling) and is_edit(form, edit) and (filling, edit) in asked(form, calm)


def whole_end(form, filling, edit, value):
    """Return the end of what is a whole order from a beginning; None for what is none."""
    moment = last(form, begin(form, filling, edit), value)
    return None if moment is None or moment[2] else moment[1]


def steps(form, moment):
    return [fire(form, moment, link) for link in moment[2]]


def are_pairs(form, calm, value):
    """Tell whether value has pairs of moments and something, as the evidence of sections B3 and B4 has them."""
    if not is_tuple(value) or len(value) > 3000 or not all(is_tuple(row, 2) for row in value):
        return False
    if not all(is_moment(form, moment) for moment, _ in value):
        return False
    moments = [moment for moment, _ in value]
    known = set(moments)
    return moments == sorted(known) and all(begin(form, *pair) in known for pair in asked(form, calm))


def endless_holds(form, value, calm=False):
    if is_tuple(value, 5) and value[0] == "endless":
        _, filling, edit, order, ring = value
        if not is_asked(form, calm, filling, edit):
            return False
        moment = last(form, begin(form, filling, edit), order)
        return moment is not None and ring != () and last(form, moment, ring) == moment
    if not is_tuple(value, 2) or value[0] != "heights" or not are_pairs(form, calm, value[1]):
        return False
    if not all(is_integer(height) and height >= 0 for _, height in value[1]):
        return False
    high = dict(value[1])
    return all(step in high and high[step] < high[moment] for moment in high for step in steps(form, moment))


def parting_holds(form, value, calm=False):
    if is_tuple(value, 5) and value[0] == "orders":
        _, filling, edit, one, other = value
        if not is_asked(form, calm, filling, edit):
            return False
        found = [whole_end(form, filling, edit, order) for order in (one, other)]
        return None not in found and found[0] != found[1]
    if not is_tuple(value, 2) or value[0] != "ends" or not are_pairs(form, calm, value[1]):
        return False
    if not all(end is None or is_filling(form, end) for _, end in value[1]):
        return False
    end = dict(value[1])
    for moment in end:
        if not moment[2] and end[moment] != moment[1]:
            return False
        for step in steps(form, moment):
            if step not in end or end[step] is not None and end[step] != end[moment]:
                return False
    return True


def uncalm_holds(form, value, calm=False):
    if is_tuple(value, 4) and value[0] == "order":
        _, filling, edit, order = value
        if not is_asked(form, calm, filling, edit):
            return False
        end = whole_end(form, filling, edit, order)
        return end is not None and not is_calm(form, end)
    if not is_tuple(value, 2) or value[0] != "closed":
        return False
    if not is_tuple(value[1]) or not are_pairs(form, calm, tuple((moment, None) for moment in value[1])):
        return False
    known = set(value[1])
    if any(not moment[2] and not is_calm(form, moment[1]) for moment in known):
        return False
    return all(step in known for moment in known for step in steps(form, moment))


def overruled_holds(form, value, calm=False):
    if is_tuple(value, 4) and value[0] == "order":
        _, filling, edit, order = value
        if not is_asked(form, calm, filling, edit):
            return False
        end = whole_end(form, filling, edit, order)
        return end is not None and end[edit[0]] != edit[1]
    if not is_tuple(value, 2) or value[0] != "closed" or not is_tuple(value[1]) or len(value[1]) > 18000:
        return False
    for row in value[1]:
        if not is_tuple(row, 2) or not is_moment(form, row[1]) or not is_value(form, row[1][0], row[0]):
            return False
    known = set(value[1])
    if list(value[1]) != sorted(known):
        return False
    if not all((edit[1], begin(form, filling, edit)) in known for filling, edit in asked(form, calm)):
        return False
    if any(not moment[2] and moment[1][moment[0]] != item for item, moment in known):
        return False
    return all((item, step) in known for item, moment in known for step in steps(form, moment))


def random_forms(seed, many, most):
    """Return forms of all sizes, by which at most so many moments are reached."""
    rnd = random.Random(seed)
    found = []
    while len(found) < many:
        form = random_form(rnd)
        if len(reach(form, asked(form))) <= most:
            found.append(form)
    return found


def turning_forms(seed, many, most):
    """Return likewise forms of small sizes, from some beginning of which a run is endless."""
    rnd = random.Random(seed)
    found = []
    while len(found) < many:
        sizes = tuple(rnd.randint(2, 3) for _ in range(rnd.randint(2, 3)))
        links = []
        for _ in range(rnd.randint(2, 5)):
            source, target = rnd.sample(range(len(sizes)), 2)
            table = tuple(rnd.choice([None] + list(range(sizes[target])) * 2) for _ in range(sizes[source]))
            links.append((source, target, table, rnd.choice([0, 0, 0, 0, 1, 2, 3])))
        form = (sizes, tuple(links))
        moments = reach(form, asked(form))
        if len(moments) <= most and endless_moments(moments):
            found.append(form)
    return found


def random_form(rnd):
    sizes = (7,) * 4
    while len(all_fillings((sizes, ()))) > 36:
        sizes = tuple(rnd.randint(2, rnd.choice([2, 3, 6])) for _ in range(rnd.randint(1, 4)))
    links = []
    for _ in range(rnd.randint(0, 6) if len(sizes) > 1 else 0):
        source, target = rnd.sample(range(len(sizes)), 2)
        values = [None] * rnd.choice([0, 0, 1, 3]) + list(range(sizes[target]))
        links.append((source, target, tuple(rnd.choice(values) for _ in range(sizes[source])), rnd.choice([0, 0, 1, 2, 3])))
    return (sizes, tuple(links))
