"""What the functions that judge evidence share."""

from echofields.bounds import MAX_MOMENTS
from echofields.codes import PLACE, SPENT, codes_behind
from echofields.errors import BadOrder
from echofields.forms import is_edit, is_filling, rests_at
from echofields.kinds import are_whole, is_ascending, is_tuple_of
from echofields.runs import begin, moment_after


def is_asked(form, filling, edit, calm):
    """Tell whether this is an asked beginning."""
    return is_filling(form, filling) and is_edit(form, edit) and (not calm or rests_at(form, filling))


def moment_or_none(form, moment, value):
    """Return the moment behind an order of at most MAX_MOMENTS links from a moment, None if value is no such order."""
    try:
        return moment_after(form, moment, value)
    except BadOrder:
        return None


def end_or_none(form, filling, edit, value):
    """Return the end of a whole order of at most MAX_MOMENTS links from a beginning, None if value is no such order."""
    moment = moment_or_none(form, begin(form, filling, edit), value)
    if moment is None or moment[2] != ():
        return None
    return moment[1]


def goes_on(form, value, calm):
    """Tell whether value is ("endless", filling, edit, order, ring), and so shows an endless run that is asked."""
    if not is_tuple_of(value, 5) or value[0] != "endless":
        return False
    _, filling, edit, order, ring = value
    return is_asked(form, filling, edit, calm) and goes_round(form, filling, edit, order, ring)


def goes_round(form, filling, edit, order, ring):
    """Tell whether an order leads from a beginning to a moment to which the ring leads back."""
    moment = moment_or_none(form, begin(form, filling, edit), order)
    return moment is not None and ring != () and moment_or_none(form, moment, ring) == moment


def are_heights(plan, starts, value):
    """Tell whether value has rows of moments and integers that show that no run from the starts is endless."""
    heights = rows_read(plan, value)
    if heights is None or not all([start in heights for start in starts]):
        return False
    if not are_whole(list(heights.values())) or min(heights.values(), default=0) < 0:
        return False
    return all([
        heights.get(behind, height) < height for code, height in heights.items() for behind in codes_behind(plan, code)
    ])


def closed_codes(plan, starts, value):
    """Return the list of the codes of moments, at most MAX_MOMENTS and ascending, that no run from the starts leaves.

    They have each start, and with each moment the one behind each firing. Return None if value has not such moments.
    """
    if not isinstance(value, tuple) or len(value) > MAX_MOMENTS:
        return None
    codes = ascending_codes(plan, value)
    if codes is None or not are_closed(plan, starts, codes):
        return None
    return codes


def are_closed(plan, starts, codes):
    """Tell whether each start is among the codes, and with each of them what is behind each firing."""
    known = {code: True for code in codes}
    if not all([start in known for start in starts]):
        return False
    return all([behind in known for code in codes for behind in codes_behind(plan, code)])


def rows_read(plan, value):
    """Return a dict with the codes of moments and what stands beside them.

    Return None if value is not an ascending tuple of at most MAX_MOMENTS pairs of a moment and something, with no
    moment twice.
    """
    if not isinstance(value, tuple) or len(value) > MAX_MOMENTS:
        return None
    if not all([isinstance(row, tuple) and len(row) == 2 for row in value]):
        return None
    codes = ascending_codes(plan, [row[0] for row in value])
    if codes is None:
        return None
    return dict(zip(codes, [row[1] for row in value]))


def ascending_codes(plan, values):
    """Return the list of the codes of ascending moments, None if the values are not such."""
    codes = codes_read(plan, values)
    return codes if codes is not None and is_ascending(values) else None


def codes_read(plan, values):
    """Return the list of the codes of some moments, None if one of the values is no moment."""
    rows, numbers, sets, _, outs, once = plan
    bits = {links: place for place, links in enumerate(sets)}
    codes = []
    for value in values:
        # Only what surely has nothing but integers can be looked up.
        if not _has_integers(value):
            return None
        field, filling, pending, spent = value
        if not (0 <= field < len(outs) and filling in numbers and pending in bits and spent in bits):
            return None
        if bits[spent] & (bits[pending] | ~once) != 0:
            return None
        place = field * len(rows) + numbers[filling]
        codes.append((place << PLACE) + (bits[spent] << SPENT) + bits[pending])
    return codes


def _has_integers(value):
    """Tell whether value has the parts of a moment: an integer and three tuples of integers."""
    if not isinstance(value, tuple) or len(value) != 4:
        return False
    field, filling, pending, spent = value
    if not (isinstance(filling, tuple) and isinstance(pending, tuple) and isinstance(spent, tuple)):
        return False
    return are_whole((field, *filling, *pending, *spent))
