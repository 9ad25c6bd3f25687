"""Moments as integers, for what goes through very many of them.

The lowest six bits of a code tell the pending links of its moment, the next six the spent ones. What stands above them
is its place: the number of its filling, and for each field ahead of the edited one as many more as there are fillings.
"""

from echofields.forms import fillings, product_of
from echofields.runs import filling_with, is_once, is_shy

LINKS = 63
SPENT = 6
PLACE = 12


def plan_of(form):
    """Return what the other functions need of a form: a plan (rows, numbers, sets, fires, outs, once).

    rows are its fillings, and numbers has the number of each; sets has for each set of links, told by its bits, these
    links; fires has for each set what the firing of each of its links does; outs has for each field the bits of the
    links whose source it is; once has the bits of the once links.
    """
    rows = fillings(form)
    numbers = {filling: number for number, filling in enumerate(rows)}
    outs = [_bits([link[0] == field for link in form[1]]) for field in range(len(form[0]))]
    sets = [()]
    fires = [[]]
    for link in range(len(form[1])):
        firing = _firing(form, rows, outs, link)
        sets = sets + [links + (link,) for links in sets]
        fires = fires + [firings + [firing] for firings in fires]
    return (rows, numbers, sets, fires, outs, _bits([is_once(link) for link in form[1]]))


def codes_behind(plan, code):
    """Return the list of the codes behind each firing at a code, in the ascending order of the links."""
    _, _, _, fires, _, _ = plan
    place = code >> PLACE
    found = []
    for drop, jumps, woken in fires[code & LINKS]:
        behind = code + drop
        if jumps[place] != 0:
            behind = (behind + jumps[place]) | (woken & ~(behind >> SPENT))
        found.append(behind)
    return found


def links_at(plan, code):
    """Return the ascending tuple of the pending links at a code."""
    _, _, sets, _, _, _ = plan
    return sets[code & LINKS]


def start_code(plan, filling, edit):
    """Return the code of the moment at which the run of an edit of a filling begins."""
    rows, numbers, _, _, outs, _ = plan
    field, item = edit
    place = field * len(rows) + numbers[filling_with(filling, edit)]
    return (place << PLACE) + (0 if filling[field] == item else outs[field])


def all_start_codes(plan):
    """Return a list of the codes at which the runs of all beginnings start."""
    rows, _, _, _, outs, _ = plan
    # Each filling is left as it is by some edit of each field, and by another one each comes of some other filling.
    places = [(field * len(rows) + number, bits) for field, bits in enumerate(outs) for number in range(len(rows))]
    return [(place << PLACE) + pending for place, bits in places for pending in (0, bits)]


def waking_start_codes(plan):
    """Return likewise a list of those at which something is pending."""
    return [code for code in all_start_codes(plan) if not is_over(code)]


def moment_of(plan, code):
    """Return the moment that has this code."""
    rows, _, sets, _, _, _ = plan
    field, number = divmod(code >> PLACE, len(rows))
    return (field, rows[number], sets[code & LINKS], sets[code >> SPENT & LINKS])


def edited_field(plan, code):
    """Return the edited field of the moment that has this code."""
    rows, _, _, _, _, _ = plan
    return (code >> PLACE) // len(rows)


def number_of(plan, code):
    """Return the number of the filling of the moment that has this code."""
    rows, _, _, _, _, _ = plan
    return (code >> PLACE) % len(rows)


def filling_of(plan, code):
    """Return the filling of the moment that has this code."""
    rows, _, _, _, _, _ = plan
    return rows[number_of(plan, code)]


def is_over(code):
    """Tell whether nothing is pending at the moment that has this code."""
    return code & LINKS == 0


def in_order(plan, codes):
    """Return the list of the codes in the ascending order of their moments."""
    _, _, sets, _, _, _ = plan
    ranks = [0] * len(sets)
    for rank, bits in enumerate(sorted(range(len(sets)), key=lambda place: sets[place])):
        ranks[bits] = rank
    return sorted(codes, key=lambda code: (code >> PLACE, ranks[code & LINKS], ranks[code >> SPENT & LINKS]))


def _bits(truths):
    return sum([1 << link for link, truth in enumerate(truths) if truth])


def _firing(form, rows, outs, link):
    """Return what a firing adds to a code, what besides at each place if it sets the target, and what it wakes then."""
    sizes, links = form
    source, target, table, _ = links[link]
    drop = -(1 << link)
    if is_once(links[link]):
        drop = drop + (1 << link << SPENT)
    # So much further stands the filling in which the target has one more.
    stride = product_of(sizes[target + 1:]) << PLACE
    wishes = [(table[filling[source]], filling[target]) for filling in rows]
    loud = [0 if wished is None else (wished - item) * stride for wished, item in wishes]
    still = [0] * len(rows)
    jumps = []
    for field in range(len(sizes)):
        jumps = jumps + (still if is_shy(links[link]) and field == target else loud)
    return (drop, jumps, outs[target])
