"""Orders among moments that are reached, over the dict of their firings that firings_from returns."""

from echofields.codes import is_over, number_of


def over_codes(firings):
    """Return the list of the codes at which the run is over."""
    return [code for code in firings if is_over(code)]


def codes_ahead(firings):
    """Return a dict with the list of the codes right ahead of each code."""
    ahead = {}
    for code in firings:
        ahead[code] = []
    for code in firings:
        for behind in firings[code].values():
            ahead[behind].append(code)
    return ahead


def spread(steps, codes):
    """Return a dict whose keys are the codes and all to which the steps lead from them, one after another."""
    waiting = list(codes)
    found = {}
    while waiting != []:
        code = waiting.pop()
        if code not in found:
            found[code] = True
            waiting.extend(list(steps[code]))
    return found


def end_bits(plan, firings):
    """Return a dict with the ends of all whole orders from each code, told by the bits of their numbers."""
    ahead = codes_ahead(firings)
    bits = {code: 0 for code in firings}
    for code in over_codes(firings):
        bits[code] = 1 << number_of(plan, code)
    waiting = list(over_codes(firings))
    while waiting != []:
        code = waiting.pop()
        for earlier in ahead[code]:
            if bits[code] & ~bits[earlier] != 0:
                bits[earlier] = bits[earlier] | bits[code]
                waiting.append(earlier)
    return bits


def endless_codes(firings):
    """Return a dict whose keys are the codes from which a run is endless."""
    ahead = codes_ahead(firings)
    missing = {code: len(firings[code]) for code in firings}
    ready = list(over_codes(firings))
    while ready != []:
        code = ready.pop()
        for earlier in ahead[code]:
            missing[earlier] = missing[earlier] - 1
            if missing[earlier] == 0:
                ready.append(earlier)
    return {code: True for code in firings if missing[code] > 0}


def code_behind(firings, code, order):
    """Return the code behind an order from a code."""
    for link in order:
        code = firings[code][link]
    return code


def first_order(firings, start, goals):
    """Return the order with the fewest links, the smallest of several, from start to one of the goals; None if none."""
    came = {start: None}
    queue = [start]
    place = 0
    # The codes come into the queue in the order of their shortest and then smallest orders.
    while place < len(queue):
        code = queue[place]
        if code in goals:
            return _order_to(came, code)
        for link, behind in firings[code].items():
            if behind not in came:
                came[behind] = (code, link)
                queue.append(behind)
        place = place + 1
    return None


def endless_orders(firings, start):
    """Return, for a code from which a run is endless, the order to a code on a ring, and the ring from there."""
    order = first_order(firings, start, ring_codes(firings))
    return (order, first_ring(firings, code_behind(firings, start, order)))


def first_ring(firings, code):
    """Return the order with the fewest links, the smallest of several, from a code on a ring back to it."""
    goals = {code: True}
    ways = [(link, first_order(firings, behind, goals)) for link, behind in firings[code].items()]
    rings = [(link,) + way for link, way in ways if way is not None]
    return min(rings, key=lambda ring: (len(ring), ring))


def ring_codes(firings):
    """Return a dict whose keys are the codes to which some order of one link or more leads back."""
    ahead = codes_ahead(firings)
    ringed = {}
    # What leads to the code that was left last, and stands in no room yet, can be reached from it as well.
    for last in _left_order(firings)[::-1]:
        if last not in ringed:
            room = _room_of(ahead, ringed, last)
            for code in room:
                # No firing leads from a code to itself, as its link is pending no longer.
                ringed[code] = len(room) > 1
    return {code: True for code in ringed if ringed[code]}


def _room_of(ahead, taken, last):
    """Return the list of the codes that lead to the last one, itself among them, but for those that are taken."""
    room = [last]
    seen = {last: True}
    place = 0
    while place < len(room):
        for code in ahead[room[place]]:
            if code not in taken and code not in seen:
                seen[code] = True
                room.append(code)
        place = place + 1
    return room


def _left_order(firings):
    """Return the codes in the order in which a walk into the depth leaves them, all behind them having been seen."""
    seen = {}
    left = []
    for first in firings:
        walk = [(first, False)]
        while walk != []:
            code, leaving = walk.pop()
            if leaving:
                left.append(code)
            elif code not in seen:
                seen[code] = True
                walk.append((code, True))
                walk.extend([(behind, False) for behind in firings[code].values()])
    return left


def _order_to(came, code):
    links = []
    while came[code] is not None:
        code, link = came[code]
        links.append(link)
    return tuple(links[::-1])
