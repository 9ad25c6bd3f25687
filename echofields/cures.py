"""Cures: links that are left out, or made once links, so that no run is endless."""

from echofields.codes import all_start_codes, plan_of
from echofields.endless import endless_beginning, find_endless
from echofields.errors import BadLinks, NoWay
from echofields.evidence import are_heights, goes_on
from echofields.forms import left_out
from echofields.kinds import is_ascending, is_tuple_of
from echofields.parts import greatest_sets, is_part, sets_of
from echofields.reaches import check_reach, may_be_many
from echofields.runs import are_links, is_once

WAYS = ("out", "once")


def treated(form, way, links):
    """Return the form with some of its links treated in a way."""
    _check_way(way)
    if not are_links(form, links):
        raise BadLinks(links)
    return _treated(form, way, links)


def find_cures(form, way):
    """Return all least cures with the heights of all moments, and all greatest sets that are none with a ring each."""
    _check(form, way)
    cures, others = _judged(form, way)
    return (
        tuple([(links, find_endless(_treated(form, way, links))[1]) for links in sorted(cures)]),
        tuple([(links, find_endless(_treated(form, way, links))) for links in greatest_sets(others)]),
    )


def fewest_cure(form, way):
    """Return the cure with the fewest links, of several the smallest."""
    _check(form, way)
    cures, _ = _judged(form, way)
    return min(cures, key=lambda links: (len(links), links))


def cures_hold(form, way, value):
    """Tell whether value is evidence that tells all cures."""
    _check(form, way)
    if not is_tuple_of(value, 2) or not all([_are_told(form, rows) for rows in value]):
        return False
    cures, others = value
    if not _tell_all(form, [links for links, _ in cures], [links for links, _ in others]):
        return False
    if not all([goes_on(_treated(form, way, links), found, False) for links, found in others]):
        return False
    return all([_is_cured(_treated(form, way, links), rows) for links, rows in cures])


def _check(form, way):
    """Raise NoWay if this is no way, or TooManyMoments if it is due for a form with some set of links treated so."""
    _check_way(way)
    if way == "out":
        # What is left when links are left out never has more moments.
        check_reach(form, False)
    elif may_be_many(_treated(form, way, _all_links(form))):
        # Once links stay what they are, so the sets without them come to the same forms.
        for links in sets_of([link for link, row in enumerate(form[1]) if not is_once(row)]):
            check_reach(_treated(form, way, links), False)


def _check_way(way):
    if way not in WAYS:
        raise NoWay(way)


def _treated(form, way, links):
    if way == "out":
        return left_out(form, links)
    sizes, rows = form
    return (sizes, tuple([_once(row) if link in links else row for link, row in enumerate(rows)]))


def _once(link):
    source, target, table, guard = link
    return (source, target, table, guard | 1)


def _all_links(form):
    return tuple(range(len(form[1])))


def _all_sets(form):
    return sets_of(_all_links(form))


def _judged(form, way):
    """Return the list of the least cures, and that of all sets that are no cures."""
    cures = []
    others = []
    # Each set comes behind its parts, so a cure that has none of those before it as a part is a least one.
    for links in _all_sets(form):
        if not any([is_part(cure, links) for cure in cures]):
            if endless_beginning(_treated(form, way, links), False) is None:
                cures.append(links)
            else:
                others.append(links)
    return (cures, others)


def _are_told(form, value):
    """Tell whether value is an ascending tuple of at most so many pairs as there are sets of links, none twice."""
    if not isinstance(value, tuple) or not all([is_tuple_of(row, 2) and are_links(form, row[0]) for row in value]):
        return False
    return is_ascending([links for links, _ in value])


def _tell_all(form, cures, others):
    """Tell whether each set of links has one of the cures as a part, or is a part of one of the others."""
    return all([
        any([is_part(cure, links) for cure in cures]) or any([is_part(links, other) for other in others])
        for links in _all_sets(form)
    ])


def _is_cured(form, rows):
    plan = plan_of(form)
    return are_heights(plan, all_start_codes(plan), rows)
