"""What the functions that judge evidence share."""

from echofields.bounds import MAX_MOMENTS
from echofields.errors import BadOrder
from echofields.forms import is_calm, is_edit, is_filling
from echofields.kinds import is_ascending, is_tuple_of
from echofields.reaches import beginnings, firings_from, starts_of
from echofields.runs import begin, fired, is_moment, moment_after


def asked_in_reach(form, calm):
    """Return the asked beginnings, or raise TooManyMoments if it is due for them."""
    asked = beginnings(form, calm=calm)
    firings_from(form, asked)
    return asked


def is_asked(form, filling, edit, calm):
    """Tell whether this is an asked beginning."""
    return is_filling(form, filling) and is_edit(form, edit) and (not calm or is_calm(form, filling))


def moment_or_none(form, moment, value):
    """Return the moment behind an order of at most MAX_MOMENTS links from a moment, None if value is no such order."""
    try:
        return moment_after(form, moment, value)
    except BadOrder:
        return None


def end_or_none(form, filling, edit, value):
    """Return the end of a whole order of at most MAX_MOMENTS links from a beginning, None if value is no such order."""
    moment = moment_or_none(form, begin(form, filling, edit), value)
    if moment is None or moment[2] != ():
        return None
    return moment[1]


def moments_fired(form, moment):
    """Return the list of the moments behind each firing at a moment."""
    return [fired(form, moment, link) for link in moment[2]]


def are_moments(form, value):
    """Tell whether value is an ascending tuple of at most MAX_MOMENTS moments."""
    if not isinstance(value, tuple) or len(value) > MAX_MOMENTS:
        return False
    return all([is_moment(form, item) for item in value]) and is_ascending(value)


def are_rows(form, asked, value):
    """Tell whether value is an ascending tuple of at most MAX_MOMENTS pairs of a moment and something.

    No moment stands in it twice, and the moment at which each asked run begins has a pair.
    """
    if not isinstance(value, tuple) or not all([is_tuple_of(row, 2) for row in value]):
        return False
    moments = tuple([row[0] for row in value])
    return are_moments(form, moments) and has_starts(form, asked, moments)


def are_closed(form, asked, value):
    """Tell whether value is an ascending tuple of at most MAX_MOMENTS moments that no asked run leaves.

    It has the moment at which each asked run begins, and with each of its moments the one behind each firing.
    """
    if not are_moments(form, value) or not has_starts(form, asked, value):
        return False
    known = {moment: True for moment in value}
    return all([behind in known for moment in value for behind in moments_fired(form, moment)])


def has_starts(form, asked, moments):
    """Tell whether the moment at which each asked run begins is among the moments."""
    known = {moment: True for moment in moments}
    return all([start in known for start in starts_of(form, asked)])
