"""The whole orders from one beginning: the shortest, the longest, how many, and each by its number."""

from echofields.codes import plan_of
from echofields.errors import BadOrder, Endless, NoNumber
from echofields.falls import fall, heights_of
from echofields.kinds import is_index, is_whole
from echofields.orders import endless_orders, first_order, over_codes
from echofields.reaches import firings_from, start_at


def shortest_order(form, filling, edit):
    """Return the whole order with the fewest links, of several the smallest; None if there is no whole one."""
    plan = plan_of(form)
    start = start_at(form, plan, filling, edit)
    firings = firings_from(plan, [start])
    return first_order(firings, start, {code: True for code in over_codes(firings)})


def longest_order(form, filling, edit):
    """Return the whole order with the most links, of several the smallest."""
    code, firings, left = _ending_from(form, filling, edit)
    heights = heights_of(left)
    links = []
    while heights[code] > 0:
        height = heights[code] - 1
        link = min([link for link, behind in firings[code].items() if heights[behind] == height])
        links.append(link)
        code = firings[code][link]
    return tuple(links)


def many_orders(form, filling, edit):
    """Return how many whole orders there are."""
    code, _, left = _ending_from(form, filling, edit)
    return _counts(left)[code]


def order_at(form, filling, edit, number):
    """Return the whole order with this index in the ascending tuple of all."""
    code, firings, left = _ending_from(form, filling, edit)
    counts = _counts(left)
    if not is_index(number, counts[code]):
        raise NoNumber(number)
    links = []
    rest = number
    while firings[code] != {}:
        link = _branch(firings[code], counts, rest)
        rest = rest - _many_before(firings[code], counts, link)
        links.append(link)
        code = firings[code][link]
    return tuple(links)


def order_number(form, filling, edit, order):
    """Return the index of a whole order in the ascending tuple of all."""
    code, firings, left = _ending_from(form, filling, edit)
    counts = _counts(left)
    if not isinstance(order, tuple):
        raise BadOrder(None)
    number = 0
    for place, link in enumerate(order):
        if not is_whole(link) or link not in firings[code]:
            raise BadOrder(place)
        number = number + _many_before(firings[code], counts, link)
        code = firings[code][link]
    if firings[code] != {}:
        raise BadOrder(len(order))
    return number


def _ending_from(form, filling, edit):
    """Return the code at which the run starts, the firings at all codes from there, and the fall if none is endless."""
    plan = plan_of(form)
    start = start_at(form, plan, filling, edit)
    firings = firings_from(plan, [start])
    left, endless = fall(plan, [start])
    if endless is not None:
        order, ring = endless_orders(firings, start)
        raise Endless(order, ring)
    return (start, firings, left)


def _counts(left):
    """Return a dict with the number of whole orders from each code of a fall."""
    counts = {}
    for code, behind in left.items():
        counts[code] = 1 if behind == [] else sum([counts[other] for other in behind])
    return counts


def _many_before(steps, counts, link):
    """Return how many of the whole orders from a code begin with a lesser link."""
    return sum([counts[behind] for other, behind in steps.items() if other < link])


def _branch(steps, counts, number):
    """Return the link with which the whole order with this number, among those from a code, begins."""
    return max([link for link in steps if _many_before(steps, counts, link) <= number])
