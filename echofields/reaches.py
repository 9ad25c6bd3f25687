"""What orders lead to: the moments that are reached from beginnings."""

from echofields.bounds import MAX_MOMENTS
from echofields.errors import TooManyMoments
from echofields.forms import fillings, is_calm
from echofields.runs import begin, fired


def beginnings(form, *, calm=False):
    """Return the ascending tuple of all beginnings, or of the calm ones alone."""
    edits = [(field, item) for field, size in enumerate(form[0]) for item in range(size)]
    rows = [filling for filling in fillings(form) if not calm or is_calm(form, filling)]
    return tuple([(filling, edit) for filling in rows for edit in edits])


def reached(form, *, calm=False):
    """Return the ascending tuple of all moments that are reached from the asked beginnings."""
    return tuple(sorted(firings_from(form, beginnings(form, calm=calm))))


def reached_from(form, filling, edit):
    """Return the ascending tuple of all moments that are reached from one beginning."""
    return tuple(sorted(firings_from(form, ((filling, edit),))))


def firings_from(form, asked):
    """Return a dict with all moments that are reached from the beginnings.

    It leads from each moment to a dict with its pending links, in ascending order, and the moment behind each firing.
    """
    waiting = list(starts_of(form, asked))
    firings = {}
    while waiting != []:
        moment = waiting.pop()
        if moment not in firings:
            if len(firings) == MAX_MOMENTS:
                raise TooManyMoments()
            firings[moment] = {link: fired(form, moment, link) for link in moment[2]}
            waiting.extend(list(firings[moment].values()))
    return firings


def starts_of(form, asked):
    """Return the list of the moments at which the runs of the beginnings begin."""
    return [begin(form, filling, edit) for filling, edit in asked]


def first_beginning(form, asked, moments):
    """Return the first of the beginnings whose run begins at one of the moments, None if there is none."""
    for filling, edit in asked:
        if begin(form, filling, edit) in moments:
            return (filling, edit)
    return None
