"""What orders lead to: the moments that are reached from beginnings."""

from echofields.bounds import MAX_MOMENTS
from echofields.codes import (
    all_start_codes, codes_behind, edited_field, in_order, links_at, moment_of, plan_of, start_code,
)
from echofields.errors import TooManyMoments
from echofields.forms import all_edits, fillings, product_of, rests_at
from echofields.runs import check_beginning, is_once


def beginnings(form, *, calm=False):
    """Return the ascending tuple of all beginnings, or of the calm ones alone."""
    rows = [filling for filling in fillings(form) if not calm or rests_at(form, filling)]
    return tuple([(filling, edit) for filling in rows for edit in all_edits(form)])


def reached(form, *, calm=False):
    """Return the ascending tuple of all moments that are reached from the asked beginnings."""
    plan = plan_of(form)
    return moments_told(plan, codes_from(plan, start_codes(form, plan, calm)))


def reached_from(form, filling, edit):
    """Return the ascending tuple of all moments that are reached from one beginning."""
    plan = plan_of(form)
    return moments_told(plan, codes_from(plan, [start_at(form, plan, filling, edit)]))


def check_reach(form, calm):
    """Raise TooManyMoments if it is due for the asked beginnings."""
    # Mostly this is known without going through the moments, or through those of some edited fields alone.
    most = [_most_edited(form, field) for field in range(len(form[0]))]
    if sum(most) > MAX_MOMENTS:
        plan = plan_of(form)
        starts = start_codes(form, plan, calm)
        for field in range(len(form[0])):
            if sum(most) > MAX_MOMENTS:
                most[field] = len(codes_from(plan, [code for code in starts if edited_field(plan, code) == field]))
    if sum(most) > MAX_MOMENTS:
        raise TooManyMoments()


def may_be_many(form):
    """Tell whether more than MAX_MOMENTS moments might be reached, as far as the number of links tells."""
    return sum([_most_edited(form, field) for field in range(len(form[0]))]) > MAX_MOMENTS


def check_reach_at(form, filling, edit):
    """Raise TooManyMoments if it is due for what is one beginning."""
    if _most_edited(form, edit[0]) > MAX_MOMENTS:
        plan = plan_of(form)
        codes_from(plan, [start_code(plan, filling, edit)])


def codes_from(plan, starts):
    """Return a dict that leads from the code of each moment that is reached from the starts to the codes behind it."""
    waiting = list(starts)
    found = {}
    while waiting != []:
        code = waiting.pop()
        if code not in found:
            if len(found) == MAX_MOMENTS:
                raise TooManyMoments()
            found[code] = codes_behind(plan, code)
            waiting.extend(list(found[code]))
    return found


def firings_from(plan, starts):
    """Return likewise a dict that leads to dicts of the pending links, in ascending order, with the codes behind."""
    found = codes_from(plan, starts)
    return {code: dict(zip(links_at(plan, code), behind)) for code, behind in found.items()}


def start_at(form, plan, filling, edit):
    """Return the code at which the run of a beginning starts; the errors are those of begin."""
    check_beginning(form, filling, edit)
    return start_code(plan, filling, edit)


def starts_of(form, plan, calm):
    """Return a dict with the asked beginnings, in ascending order, and the code at which the run of each starts."""
    return {(filling, edit): start_code(plan, filling, edit) for filling, edit in beginnings(form, calm=calm)}


def start_codes(form, plan, calm):
    """Return a list of the codes at which the asked runs start."""
    if calm:
        return list(starts_of(form, plan, calm).values())
    return all_start_codes(plan)


def beginning_at(starts, codes):
    """Return the first beginning whose run starts at one of the codes, None if there is none."""
    for beginning, code in starts.items():
        if code in codes:
            return beginning
    return None


def moments_told(plan, codes):
    """Return the ascending tuple of the moments that have these codes."""
    return tuple([moment_of(plan, code) for code in in_order(plan, codes)])


def _most_edited(form, field):
    """Return a number that is not less than that of the moments with this edited field that can be reached."""
    led = {field: True}
    for _ in form[0]:
        for link in form[1]:
            if link[0] in led:
                led[link[1]] = True
    states = [3 if is_once(link) else 2 for link in form[1] if link[0] in led]
    return product_of(form[0]) * product_of(states)
