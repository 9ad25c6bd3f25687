"""The words of the document's sections F, G and N once more, as plainly and slowly as can be."""

from tests import naive, naive_more
from tests.naive import is_one_of, is_tuple
from tests.naive_more import parts_of


# Cures.

def treated(form, way, links):
    if way == "out":
        return naive_more.left_out(form, links)
    once = {0: 1, 1: 1, 2: 3, 3: 3}
    return (form[0], tuple(row[:3] + (once[row[3]],) if link in links else row for link, row in enumerate(form[1])))


def all_sets(form):
    return parts_of(range(len(form[1])))


def is_cure(form, way, links):
    done = treated(form, way, links)
    return not naive.endless_moments(naive.reach(done, naive.asked(done)))


def find_cures(form, way):
    cures = [links for links in all_sets(form) if is_cure(form, way, links)]
    others = [links for links in all_sets(form) if links not in cures]
    least = [one for one in cures if not any(set(other) < set(one) for other in cures)]
    greatest = [one for one in others if not any(set(one) < set(other) for other in others)]
    return (
        tuple((links, naive.find_endless(treated(form, way, links))[1]) for links in sorted(least)),
        tuple((links, naive.find_endless(treated(form, way, links))) for links in sorted(greatest)),
    )


def cures_hold(form, way, value):
    if not is_tuple(value, 2) or not all(is_tuple(rows) and len(rows) <= 64 for rows in value):
        return False
    for rows in value:
        if not all(is_tuple(row, 2) and naive.is_links(form, row[0]) for row in rows):
            return False
        told = [links for links, _ in rows]
        if told != sorted(set(told)):
            return False
    cures, others = value
    for links, rows in cures:
        if not naive.endless_holds(treated(form, way, links), ("heights", rows)):
            return False
    for links, found in others:
        if not is_tuple(found) or found[:1] != ("endless",):
            return False
        if not naive.endless_holds(treated(form, way, links), found):
            return False
    return all(any(set(cure) <= set(links) for cure, _ in cures) or any(set(links) <= set(other) for other, _ in others)
               for links in all_sets(form))


# Rings of fields that are few enough to go through.

def ring_states(table, old, start, many, closed=True):
    """Return the values of all fields behind each firing, up to the end or the first time that all comes again."""
    values = [old[field % len(old)] for field in range(many)]
    states = [tuple(values)]
    if values[0] == start:
        return states, False
    values[0] = start
    states = [tuple(values)]
    seen = set()
    changed = 0
    while closed or changed < many - 1:
        if (changed, tuple(values)) in seen:
            return states, True
        seen.add((changed, tuple(values)))
        target = (changed + 1) % many
        wished = table[values[changed]]
        if wished is None or wished == values[target]:
            return states + [states[-1]], False
        values[target] = wished
        states.append(tuple(values))
        changed = target
    return states, False


def ring_form(table, many, closed=True):
    """Return the ring or the chain as a form, where it is small enough to be one."""
    fields = range(many if closed else many - 1)
    return ((len(table),) * many, tuple((field, (field + 1) % many, table, 0) for field in fields))


def endless_rule(table, old, start):
    wishes = [start]
    for _ in range(400):
        wishes.append(None if wishes[-1] is None else table[wishes[-1]])
    first = next((k for k in range(1, 200) if wishes[k] is None or wishes[k] == old[k % len(old)]), None)
    if None in wishes:
        return (first, None, None)
    for period in range(1, 20):
        same = [wishes[k] == wishes[k + period] for k in range(300)]
        if all(same[100:]):
            return (first, min(k for k in range(101) if all(same[k:])), period)


# Benches.

LENGTHS = {"add": 1, "drop": 1, "set": 2, "guard": 2, "entry": 3}


def link_word(form, link):
    """Return the word for what is wrong with a link, None if it is one of the form."""
    if not is_tuple(link, 4):
        return "link"
    source, target, table, guard = link
    fields = range(len(form[0]))
    if not is_one_of(source, fields):
        return "source"
    if not is_one_of(target, fields) or target == source:
        return "target"
    if not is_tuple(table, form[0][source]) or not all(item is None or naive.is_value(form, target, item) for item in table):
        return "table"
    return None if is_one_of(guard, range(4)) else "guard"


def after_change(form, change):
    """Return the form behind a change, or the name of the error and its field."""
    sizes, links = form
    word, *given = change
    if word == "add":
        if len(links) >= 6:
            return "TooMany", 6
        wrong = link_word(form, given[0])
        return ("BadLink", wrong) if wrong else ((sizes, links + (given[0],)),)
    index = given[0]
    if not is_one_of(index, range(len(links))):
        return "NoLink", index
    if word == "drop":
        return (sizes, links[:index] + links[index + 1:]),
    source, target, table, guard = links[index]
    new = None
    if word == "set":
        wrong = link_word(form, given[1])
        if wrong:
            return "BadLink", wrong
        new = given[1]
    elif word == "guard":
        if not is_one_of(given[1], range(4)):
            return "NoGuard", given[1]
        new = (source, target, table, given[1])
    else:
        _, value, item = given
        if not naive.is_value(form, source, value):
            return "NoValue", value
        if not (item is None or naive.is_value(form, target, item)):
            return "NoItem", item
        new = (source, target, table[:value] + (item,) + table[value + 1:], guard)
    return (sizes, links[:index] + (new,) + links[index + 1:]),


def is_change(value):
    """Tell whether value is a tuple of the word of a change with as many further items as are told."""
    if not is_tuple(value) or not value or value[0].__class__ is not str or value[0] not in LENGTHS:
        return False
    return len(value) == 1 + LENGTHS[value[0]]
