"""Runs: from moment to moment, as the pending links fire."""

from echofields.bounds import MAX_MOMENTS
from echofields.errors import BadEdit, BadMoment, BadOrder, NoLink
from echofields.forms import check_filling, is_edit, is_filling, is_loud, wish_of
from echofields.kinds import is_ascending, is_index, is_tuple_of, is_whole


def begin(form, filling, edit):
    """Return the moment at which the run of an edit of a filling begins."""
    check_beginning(form, filling, edit)
    field, item = edit
    if filling[field] == item:
        return (field, filling, (), ())
    return (field, filling_with(filling, edit), tuple(links_out(form, field)), ())


def check_beginning(form, filling, edit):
    """Raise BadFilling or BadEdit if these are not a filling and an edit of the form."""
    check_filling(form, filling)
    if not is_edit(form, edit):
        raise BadEdit(edit)


def is_moment(form, value):
    """Tell whether value is a moment of the form, also if no run comes to it."""
    if not is_tuple_of(value, 4):
        return False
    field, filling, pending, spent = value
    if not is_index(field, len(form[0])) or not is_filling(form, filling):
        return False
    if not are_links(form, pending) or not are_links(form, spent):
        return False
    return all([is_once(form[1][link]) and link not in pending for link in spent])


def are_links(form, value):
    """Tell whether value is an ascending tuple of links of the form."""
    if not isinstance(value, tuple) or not all([is_index(link, len(form[1])) for link in value]):
        return False
    return is_ascending(value)


def links_out(form, field):
    """Return the list of the links whose source is the field."""
    return [link for link in range(len(form[1])) if form[1][link][0] == field]


def filling_with(filling, edit):
    """Return the filling in which the field of an edit has the value of the edit, and no link has fired."""
    field, item = edit
    return filling[:field] + (item,) + filling[field + 1:]


def is_once(link):
    """Tell whether a link, given as its tuple, is a once link."""
    return link[3] in (1, 3)


def is_shy(link):
    """Tell whether a link, given as its tuple, is a shy link."""
    return link[3] in (2, 3)


def is_pending(moment, value):
    """Tell whether value is one of the pending links of the moment."""
    return is_whole(value) and value in moment[2]


def fire(form, value, link):
    """Return the moment behind the firing of one of the pending links of a moment."""
    if not is_moment(form, value):
        raise BadMoment(value)
    if not is_pending(value, link):
        raise NoLink(link)
    return fired(form, value, link)


def fired(form, moment, link):
    """Return what fire does; this asks for a moment and a link that is pending there, and doesn't check them."""
    field, filling, pending, spent = moment
    links = form[1]
    pending = tuple([other for other in pending if other != link])
    if is_once(links[link]):
        spent = tuple(sorted(spent + (link,)))
    target = links[link][1]
    if not is_loud(links[link], filling) or (is_shy(links[link]) and target == field):
        return (field, filling, pending, spent)
    filling = filling_with(filling, (target, wish_of(links[link], filling)))
    woken = [other for other in links_out(form, target) if other not in spent]
    return (field, filling, tuple(sorted(set(pending) | set(woken))), spent)


def moment_behind(form, filling, edit, order):
    """Return the moment behind an order of a run."""
    return moment_after(form, begin(form, filling, edit), order)


def moment_after(form, moment, order):
    """Return the moment behind an order that leads on from a moment."""
    _check_length(order)
    field, filling, pending, spent = moment
    values = list(filling)
    waiting = {link: True for link in pending}
    done = {link: True for link in spent}
    # Evidence has very many links, so what each of them does is looked up but once.
    acts = [_act(form, field, link) for link in range(len(form[1]))]
    for place, link in enumerate(order):
        if link is True or link is False or not isinstance(link, int) or link not in waiting:
            raise BadOrder(place)
        source, target, table, once, woken = acts[link]
        del waiting[link]
        if once:
            done[link] = True
        wished = table[values[source]]
        if wished is not None and wished != values[target]:
            values[target] = wished
            for other in woken:
                if other not in done:
                    waiting[other] = True
    return (field, tuple(values), tuple(sorted(waiting)), tuple(sorted(done)))


def walk_order(form, filling, edit, order):
    """Yield the moment at which a run begins, then the one behind each link of the order."""
    moment = begin(form, filling, edit)
    yield from walk_from(form, moment, order)


def walk_from(form, moment, order):
    """Yield a moment, then the one behind each link of an order that leads on from it."""
    _check_length(order)
    yield moment
    for place, link in enumerate(order):
        if not is_pending(moment, link):
            raise BadOrder(place)
        moment = fired(form, moment, link)
        yield moment


def least_run(form, filling, edit):
    """Let always the least pending link fire.

    Return ("end", end, order) if that run is over at some time. Otherwise return ("endless", order, ring): order leads
    to its first moment that comes again, and ring from there until it does.
    """
    moment = begin(form, filling, edit)
    order = []
    places = {}
    while moment[2] != ():
        if moment in places:
            again = places[moment]
            return ("endless", tuple(order[:again]), tuple(order[again:]))
        places[moment] = len(order)
        link = moment[2][0]
        order.append(link)
        moment = fired(form, moment, link)
    return ("end", moment[1], tuple(order))


def _check_length(order):
    if not isinstance(order, tuple) or len(order) > MAX_MOMENTS:
        raise BadOrder(None)


def _act(form, field, link):
    """Return the source, the target and the table of a link, whether it is a once link, and the links that it wakes."""
    source, target, table, _ = form[1][link]
    if is_shy(form[1][link]) and target == field:
        table = (None,) * len(table)
    return (source, target, table, is_once(form[1][link]), links_out(form, target))
