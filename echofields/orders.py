"""Orders among moments that are reached, over the dict of their firings that firings_from returns."""


def over_moments(firings):
    """Return the list of the moments at which the run is over."""
    return [moment for moment in firings if firings[moment] == {}]


def moments_behind(firings):
    """Return a dict with the list of the moments right behind each moment."""
    return {moment: list(firings[moment].values()) for moment in firings}


def moments_ahead(firings):
    """Return a dict with the list of the moments right ahead of each moment."""
    ahead = {}
    for moment in firings:
        ahead[moment] = []
    for moment in firings:
        for behind in firings[moment].values():
            ahead[behind].append(moment)
    return ahead


def spread(steps, moments):
    """Return a dict whose keys are the moments and all to which the steps lead from them, one after another."""
    waiting = list(moments)
    found = {}
    while waiting != []:
        moment = waiting.pop()
        if moment not in found:
            found[moment] = True
            waiting.extend(list(steps[moment]))
    return found


def heights_of(firings):
    """Return a dict with the greatest number of links of an order from each moment from which no run is endless.

    Each moment stands in it behind all to which orders lead from it.
    """
    ahead = moments_ahead(firings)
    missing = {moment: len(firings[moment]) for moment in firings}
    ready = list(over_moments(firings))
    heights = {}
    while ready != []:
        moment = ready.pop()
        heights[moment] = max([heights[behind] + 1 for behind in firings[moment].values()], default=0)
        for earlier in ahead[moment]:
            missing[earlier] = missing[earlier] - 1
            if missing[earlier] == 0:
                ready.append(earlier)
    return heights


def first_order(firings, start, goals):
    """Return the order with the fewest links, the smallest of several, from start to one of the goals; None if none."""
    came = {start: None}
    queue = [start]
    place = 0
    # The moments come into the queue in the order of their shortest and then smallest orders.
    while place < len(queue):
        moment = queue[place]
        if moment in goals:
            return _order_to(came, moment)
        for link, behind in firings[moment].items():
            if behind not in came:
                came[behind] = (moment, link)
                queue.append(behind)
        place = place + 1
    return None


def endless_orders(firings, start):
    """Return, for a moment from which a run is endless, the order to a moment on a ring, and the ring from there."""
    order = first_order(firings, start, ring_moments(firings))
    moment = start
    for link in order:
        moment = firings[moment][link]
    return (order, first_ring(firings, moment))


def first_ring(firings, moment):
    """Return the order with the fewest links, the smallest of several, from a moment on a ring back to it."""
    goals = {moment: True}
    ways = [(link, first_order(firings, behind, goals)) for link, behind in firings[moment].items()]
    rings = [(link,) + way for link, way in ways if way is not None]
    return min(rings, key=lambda ring: (len(ring), ring))


def ring_moments(firings):
    """Return a dict whose keys are the moments to which some order of one link or more leads back."""
    ahead = moments_ahead(firings)
    ringed = {}
    # What leads to the moment that was left last, and stands in no room yet, can be reached from it as well.
    for last in _left_order(firings)[::-1]:
        if last not in ringed:
            room = _room_of(ahead, ringed, last)
            for moment in room:
                # No firing leads from a moment to itself, as its link is pending no longer.
                ringed[moment] = len(room) > 1
    return {moment: True for moment in ringed if ringed[moment]}


def _room_of(ahead, taken, last):
    """Return the list of the moments that lead to the last one, itself among them, but for those that are taken."""
    room = [last]
    seen = {last: True}
    place = 0
    while place < len(room):
        for moment in ahead[room[place]]:
            if moment not in taken and moment not in seen:
                seen[moment] = True
                room.append(moment)
        place = place + 1
    return room


def _left_order(firings):
    """Return the moments in the order in which a walk into the depth leaves them, all behind them having been seen."""
    seen = {}
    left = []
    for first in firings:
        walk = [(first, False)]
        while walk != []:
            moment, leaving = walk.pop()
            if leaving:
                left.append(moment)
            elif moment not in seen:
                seen[moment] = True
                walk.append((moment, True))
                walk.extend([(behind, False) for behind in firings[moment].values()])
    return left


def _order_to(came, moment):
    links = []
    while came[moment] is not None:
        moment, link = came[moment]
        links.append(link)
    return tuple(links[::-1])
