"""Runs that are followed into the depth, until they are over or turn out to be endless."""

from echofields.codes import codes_behind, in_order, moment_of


def fall(plan, starts):
    """Follow all runs from the starts, one start after another, until a run is found to be endless.

    Return a dict and the first start from which a run is endless, or None. The dict leads from codes to the codes right
    behind them, each code standing in it behind all to which orders lead from it; it has all that is reached from the
    starts ahead of this first one.
    """
    left = {}
    entered = {}
    for start in starts:
        walk = [start]
        while walk != []:
            code = walk[-1]
            if code in entered:
                walk.pop()
                if code not in left:
                    left[code] = entered[code]
            else:
                entered[code] = codes_behind(plan, code)
                for behind in entered[code]:
                    if behind not in left:
                        # What was entered and not left leads to this code.
                        if behind in entered:
                            return (left, start)
                        walk.append(behind)
    return (left, None)


def heights_of(left):
    """Return a dict with the greatest number of links of an order from each code of a fall."""
    heights = {}
    for code, behind in left.items():
        heights[code] = max([heights[other] for other in behind], default=-1) + 1
    return heights


def heights_told(plan, left):
    """Return the ascending tuple of pairs of a moment and its height, for all codes of a fall."""
    heights = heights_of(left)
    return tuple([(moment_of(plan, code), heights[code]) for code in in_order(plan, heights)])
