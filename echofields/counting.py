"""The whole orders from one beginning: the shortest, the longest, how many, and each by its number."""

from echofields.errors import BadOrder, Endless, NoNumber
from echofields.kinds import is_index
from echofields.orders import endless_orders, first_order, heights_of, over_moments
from echofields.reaches import firings_from
from echofields.runs import begin, is_pending


def shortest_order(form, filling, edit):
    """Return the whole order with the fewest links, of several the smallest; None if there is no whole one."""
    firings = firings_from(form, ((filling, edit),))
    goals = {moment: True for moment in over_moments(firings)}
    return first_order(firings, begin(form, filling, edit), goals)


def longest_order(form, filling, edit):
    """Return the whole order with the most links, of several the smallest."""
    moment = begin(form, filling, edit)
    firings, heights = _ending_from(form, filling, edit)
    links = []
    while heights[moment] > 0:
        height = heights[moment] - 1
        link = min([link for link, behind in firings[moment].items() if heights[behind] == height])
        links.append(link)
        moment = firings[moment][link]
    return tuple(links)


def many_orders(form, filling, edit):
    """Return how many whole orders there are."""
    firings, heights = _ending_from(form, filling, edit)
    return _counts(firings, heights)[begin(form, filling, edit)]


def order_at(form, filling, edit, number):
    """Return the whole order with this index in the ascending tuple of all."""
    moment = begin(form, filling, edit)
    firings, heights = _ending_from(form, filling, edit)
    counts = _counts(firings, heights)
    if not is_index(number, counts[moment]):
        raise NoNumber(number)
    links = []
    left = number
    while firings[moment] != {}:
        link = _branch(firings[moment], counts, left)
        left = left - _many_before(firings[moment], counts, link)
        links.append(link)
        moment = firings[moment][link]
    return tuple(links)


def order_number(form, filling, edit, order):
    """Return the index of a whole order in the ascending tuple of all."""
    moment = begin(form, filling, edit)
    firings, heights = _ending_from(form, filling, edit)
    counts = _counts(firings, heights)
    if not isinstance(order, tuple):
        raise BadOrder(None)
    number = 0
    for place, link in enumerate(order):
        if not is_pending(moment, link):
            raise BadOrder(place)
        number = number + _many_before(firings[moment], counts, link)
        moment = firings[moment][link]
    if firings[moment] != {}:
        raise BadOrder(len(order))
    return number


def _ending_from(form, filling, edit):
    """Return the firings and the heights of all moments that are reached, if no run is endless."""
    firings = firings_from(form, ((filling, edit),))
    heights = heights_of(firings)
    start = begin(form, filling, edit)
    if start not in heights:
        order, ring = endless_orders(firings, start)
        raise Endless(order, ring)
    return (firings, heights)


def _counts(firings, heights):
    """Return a dict with the number of whole orders from each moment."""
    counts = {}
    # In heights each moment stands behind those that are counted for it.
    for moment in heights:
        counts[moment] = 1 if firings[moment] == {} else sum([counts[behind] for behind in firings[moment].values()])
    return counts


def _many_before(steps, counts, link):
    """Return how many of the whole orders from a moment begin with a lesser link."""
    return sum([counts[behind] for other, behind in steps.items() if other < link])


def _branch(steps, counts, number):
    """Return the link with which the whole order with this number, among those from a moment, begins."""
    return max([link for link in steps if _many_before(steps, counts, link) <= number])
