"""Rules that tell which of the pending links fires next."""

from echofields.codes import codes_behind, filling_of, links_at, moment_of, plan_of, start_code
from echofields.errors import NoRule
from echofields.reaches import check_reach, check_reach_at, starts_of
from echofields.runs import check_beginning

RULES = ("queue", "stack", "least")


def run_by(form, filling, edit, rule):
    """Return the end and the order of the run that a rule tells, or the order and the ring if it is never over."""
    pairs = list(walk_rule(form, filling, edit, rule))
    moment, line = pairs[-1]
    order = tuple([links[0] for _, links in pairs[:-1]])
    if line == ():
        return ("end", moment[1], order)
    place = pairs.index(pairs[-1])
    return ("endless", order[:place], order[place:])


def walk_rule(form, filling, edit, rule):
    """Yield each moment of the run that a rule tells with its line of links, until it is over or comes again."""
    check_beginning(form, filling, edit)
    _check_rule(rule)
    check_reach_at(form, filling, edit)
    plan = plan_of(form)
    code = start_code(plan, filling, edit)
    line = links_at(plan, code)
    seen = {}
    while line != () and (code, line) not in seen:
        yield (moment_of(plan, code), line)
        seen[(code, line)] = True
        code, line = _step(plan, rule, code, line)
    yield (moment_of(plan, code), line)


def rules_part(form, one, other, *, calm=False):
    """Return the least asked beginning from which two rules do not come to the same end, None if there is none."""
    _check_rule(one)
    _check_rule(other)
    check_reach(form, calm)
    plan = plan_of(form)
    for beginning, code in starts_of(form, plan, calm).items():
        if _end_by(plan, one, code) != _end_by(plan, other, code):
            return beginning
    return None


def _check_rule(rule):
    if rule not in RULES:
        raise NoRule(rule)


def _step(plan, rule, code, line):
    """Return the code and the line behind the firing of the first link of a line."""
    pending = links_at(plan, code)
    behind = codes_behind(plan, code)[pending.index(line[0])]
    return (behind, _line_behind(rule, line[1:], links_at(plan, behind)))


def _line_behind(rule, line, pending):
    """Return the line in which the pending links stand behind a firing that has left a line of them."""
    if rule == "least":
        return pending
    woken = tuple([link for link in pending if link not in line])
    return line + woken if rule == "queue" else woken + line


def _end_by(plan, rule, code):
    """Return the end of the run that a rule tells from a code at which it starts, None if it is endless."""
    line = links_at(plan, code)
    seen = {}
    while line != ():
        if (code, line) in seen:
            return None
        seen[(code, line)] = True
        code, line = _step(plan, rule, code, line)
    return filling_of(plan, code)
