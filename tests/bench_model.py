"""Benches by the words of the document's section N, and changes to try on them."""

from tests import naive, naive_last
from tests.samples import ANY_VALUES, VERY_GREAT, raised

LINK = (0, 1, (1, 0), 0)


class Model:
    """What stands on a bench."""

    def __init__(self, form, calm=False, safe=False):
        self.forms = [form]
        self.changes = []
        self.calm = calm
        self.safe = safe

    def apply(self, change):
        """Do a change; return what its method returns, or the error's name with the fields that it has."""
        if len(self.changes) >= 40:
            return ("TooManyChanges",)
        found = naive_last.after_change(self.forms[-1], change)
        if found[0].__class__ is str:
            return found
        error = self.unsafe(found[0], self.calm)
        if error is not None:
            return error
        self.forms.append(found[0])
        self.changes.append(change)
        return len(self.changes)

    def unsafe(self, form, calm):
        """Return the error for a form that a safe bench may not have, None for any other one."""
        if not self.safe:
            return None
        if len(naive.reach(form, naive.asked(form, calm))) > 3000:
            return ("TooManyMoments",)
        found = naive.find_endless(form, calm)
        return ("GoesOn", found[1], found[2]) if found[0] == "endless" else None

    def undo(self):
        if not self.changes:
            return ("NothingToUndo",)
        self.forms.pop()
        self.changes.pop()
        return len(self.changes)

    def attempt(self, batch):
        if batch.__class__ is not tuple or len(batch) > 20:
            return ("BadBatch",)
        forms, changes = list(self.forms), list(self.changes)
        for index, change in enumerate(batch):
            if not naive_last.is_change(change) or self.apply(change).__class__ is tuple:
                self.forms, self.changes = forms, changes
                return ("Rejected", index)
        return len(self.changes)


def do(bench, change):
    """Do a change by its method."""
    word, *given = change
    name = "replace" if word == "set" else word
    return getattr(bench, name)(*given)


def do_by_sign(bench, change):
    """Do a change by its operator, where it has one."""
    word, *given = change
    if word == "add":
        bench += given[0]
    elif word == "drop":
        bench -= given[0]
    elif word == "set":
        bench[given[0]] = given[1]
    else:
        return do(bench, change)
    return len(bench.changes())


def outcome(call):
    """Return what a call returns, or the name and the fields of its error."""
    found = []
    error = raised(lambda: found.append(call()))
    if error is None:
        return found[0]
    return (error.__class__.__name__,) + tuple(vars(error).values())


def state(bench):
    """Return all that can be asked of a bench, but for what is judged anew."""
    return (
        bench.form_at(), bench.changes(), tuple(bench.each_version()), bench.calm, len(bench), str(bench),
        tuple(bench[index] for index in range(len(bench))),
    )


def random_change(rnd, form):
    """Return a change, mostly one that can be done."""
    sizes, links = form
    fields = range(len(sizes))
    word = rnd.choice(["add", "add", "add", "drop", "set", "guard", "guard", "entry", "entry"])
    index = rnd.randrange(len(links) + 1) if rnd.random() < 0.2 else rnd.randrange(max(1, len(links)))
    if word == "drop":
        return (word, index)
    if word == "guard":
        return (word, index, rnd.randrange(5) if rnd.random() < 0.2 else rnd.randrange(4))
    if word == "entry":
        return (word, index, rnd.choice([0, 0, 1, 1, 2]), rnd.choice([None, 0, 1, 1, 2]))
    source, target = rnd.sample(fields, 2)
    table = tuple(rnd.choice([None] + list(range(sizes[target]))) for _ in range(sizes[source]))
    link = (source, target, table, rnd.choice([0, 0, 1, 2, 3]))
    if rnd.random() < 0.1:
        link = rnd.choice([link[:3], link[:3] + (4,), (source, source) + link[2:], list(link), (source, 9) + link[2:], None,
                           (source, target, table[1:], 0), (True, False, table, 0)])
    return (word, link) if word == "add" else (word, index, link)


# Tuples that are no changes, or cannot be done on a bench with the form S.
NO_CHANGES = ANY_VALUES + [
    ("add",), ("add", LINK, 0), ("drop",), ("drop", 0, 0), ("set", 0), ("set", 0, LINK, 0), ("guard", 0), ("guard", 0, 1, 2),
    ("entry", 0, 0), ("entry", 0, 0, 0, 0), ["drop", 0], ("Drop", 0), ("drop ", 0), ("undo",), ("replace", 0, LINK), (0, "drop"),
    (("drop", 0),), ("calm", True), ("drop", 1), ("drop", True), ("drop", False), ("drop", None), ("drop", VERY_GREAT),
    ("add", LINK), ("add", None), ("set", 0, LINK), ("set", 1, LINK), ("set", 0, list(LINK)), ("guard", 0, 4),
    ("guard", 0, True), ("guard", 1, 0), ("entry", 0, 2, 0), ("entry", 0, 0, 3), ("entry", 0, True, 0),
    ("entry", 0, 0, False), ("entry", 1, 0, 0), ("entry", 0, 0, "-"),
]
