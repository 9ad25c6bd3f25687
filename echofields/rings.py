"""Rings and chains of very many fields, all links of which have the same table.

What the k-th firing wishes, w(k), is told by two lists: the first wishes, and those that then come again and again. The
latter one is empty if the wishes end with None.
"""

from echofields.bounds import MAX_FAR
from echofields.errors import NoField, NoNumber
from echofields.kinds import is_index, is_whole


def firings(table, old, start, many, *, closed=True):
    """Return how many firings the run of a ring has, or with closed=False that of a chain; None if it is endless."""
    _check_range(many)
    return _many_firings(table, old, start, many, closed)


def endless_rule(table, old, start):
    """Return the first firing that leaves an old value as it is, and from where on and how often wishes recur."""
    tail, cycle = _wishes(table, start)
    first = _first_still(tail, cycle, old)
    if cycle == []:
        return (first, None, None)
    return (first, len(tail), len(cycle))


def count_endless(table, old, start, limit):
    """Return for how many numbers of fields, from 2 to limit, the run of a ring is endless."""
    _check_range(limit)
    first, _, period = endless_rule(table, old, start)
    if old[0] == start or period is None or period == 1:
        return 0
    # A run that comes round is endless unless the period divides the number of fields.
    top = limit if first is None else min(limit, first)
    return top - 1 - top // period


def value_after(table, old, start, many, field, times, *, closed=True):
    """Return the value that a field has behind so many firings, or at the end if the run is over before."""
    _check_range(many)
    if not is_index(field, many):
        raise NoField(field)
    _check_times(times)
    tail, cycle = _wishes(table, start)
    last = _last_set(table, old, start, many, times, closed)
    if field > last:
        return old[field % len(old)]
    return _wish_at(tail, cycle, last - (last - field) % many)


def shares_after(table, old, start, many, times, *, closed=True):
    """Return for each value how many fields have it behind so many firings, or at the end."""
    _check_range(many)
    _check_times(times)
    tail, cycle = _wishes(table, start)
    last = _last_set(table, old, start, many, times, closed)
    # The latest firings have set a field each; the fields behind the last one still have their old values.
    first = max(0, last + 1 - many)
    untold = max(many, last + 1)
    shares = []
    for item in range(len(table)):
        told = _count(tail, cycle, item, last + 1) - _count(tail, cycle, item, first)
        shares.append(told + _count([], list(old), item, untold) - _count([], list(old), item, last + 1))
    return tuple(shares)


def _check_range(number):
    if not is_whole(number) or not 2 <= number <= MAX_FAR:
        raise NoNumber(number)


def _check_times(times):
    if not is_index(times, MAX_FAR + 1):
        raise NoNumber(times)


def _wishes(table, start):
    """Return the list of the first wishes, w(0) among them, and that of those that recur, empty if they end."""
    row = []
    item = start
    while item is not None and item not in row:
        row.append(item)
        item = table[item]
    if item is None:
        return (row, [])
    return (row[:row.index(item)], row[row.index(item):])


def _wish_at(tail, cycle, number):
    """Return the wish with this number, None if the wishes have ended."""
    if number < len(tail):
        return tail[number]
    return None if cycle == [] else cycle[(number - len(tail)) % len(cycle)]


def _first_still(tail, cycle, old):
    """Return the least number from 1 on of a wish that is None or the old value there, None if there is none."""
    # Behind so many wishes they recur together with the old values.
    for number in range(1, len(tail) + len(cycle) * len(old) + 1):
        wished = _wish_at(tail, cycle, number)
        if wished is None or wished == old[number % len(old)]:
            return number
    return None


def _many_firings(table, old, start, many, closed):
    if old[0] == start:
        return 0
    tail, cycle = _wishes(table, start)
    first = _first_still(tail, cycle, old)
    if first is not None and first < many:
        return first
    if not closed:
        return many - 1
    if cycle == []:
        # No two wishes are alike, so only the one that is None ends the run.
        return len(tail)
    # A wish of the tail never comes again, one that recurs does so after each period.
    return many + len(tail) if many % len(cycle) == 0 else None


def _last_set(table, old, start, many, times, closed):
    """Return the number of the last wish, 0 for the edit, that a field was given behind so many firings."""
    all_firings = _many_firings(table, old, start, many, closed)
    last = times if all_firings is None else min(times, all_firings)
    tail, cycle = _wishes(table, start)
    # Only the very last firing may wish nothing.
    return last - 1 if _wish_at(tail, cycle, last) is None else last


def _count(tail, cycle, item, number):
    """Return how many of the first so many items, of a tail and a cycle that comes again and again, are this one."""
    rest = number - len(tail)
    found = tail[:number].count(item)
    if cycle == [] or rest <= 0:
        return found
    rounds, more = divmod(rest, len(cycle))
    return found + rounds * cycle.count(item) + cycle[:more].count(item)
