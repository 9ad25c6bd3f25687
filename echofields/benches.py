"""Benches: forms that are edited, with all their versions."""

from echofields.bounds import BATCH, HISTORY
from echofields.changes import changed, is_change
from echofields.endless import endless_beginning, find_endless
from echofields.errors import (
    BadBatch, BadForm, Busy, FieldError, GoesOn, NoLink, NothingToUndo, NoTruth, NoVersion, Rejected, TooManyChanges,
)
from echofields.forms import form_error, link_error
from echofields.kinds import is_index
from echofields.texts import form_text


class Bench:
    """A form that is changed, and the changes that stand."""

    def __init__(self, form):
        error = form_error(form)
        if error is not None:
            raise BadForm(error)
        # The form of each version, and the change ahead of each version but the first.
        self._forms = (form,)
        self._changes = ()
        self._calm = False
        self._busy = False

    @property
    def calm(self):
        """Whether only calm beginnings are asked; setting it does what set_calm does."""
        return self._calm

    @calm.setter
    def calm(self, value):
        self.set_calm(value)

    def add(self, link):
        """Put a link behind the others; return how many changes stand then, as the other changes do."""
        return self._change(("add", link))

    def drop(self, index):
        """Take a link out; those behind it move up."""
        return self._change(("drop", index))

    def replace(self, index, link):
        """Put another link in the place of one."""
        return self._change(("set", index, link))

    def guard(self, index, guard):
        """Give a link another guard."""
        return self._change(("guard", index, guard))

    def entry(self, index, value, item):
        """Put another item in the place of the one for a value of its source in the table of a link."""
        return self._change(("entry", index, value, item))

    def undo(self):
        """Take back the latest change that stands; return how many stand then."""
        self._check_free()
        if self._changes == ():
            raise NothingToUndo()
        self._forms = self._forms[:-1]
        self._changes = self._changes[:-1]
        return len(self._changes)

    def attempt(self, batch, *, on_step=None):
        """Do all changes of a batch, calling on_step behind each, or none of them; return how many stand then."""
        self._check_free()
        if not isinstance(batch, tuple) or len(batch) > BATCH:
            raise BadBatch()
        forms = self._forms
        changes = self._changes
        done = None
        # Whatever on_step raises passes through here, also what is no error of the package.
        try:
            self._busy = True
            for index, change in enumerate(batch):
                self._step(index, change)
                if on_step is not None:
                    on_step(self)
            done = True
        finally:
            self._busy = False
            if done is None:
                self._forms = forms
                self._changes = changes
        return len(self._changes)

    def changes(self):
        """Return the tuple of the changes that stand."""
        return self._changes

    def form_at(self, *, version=None):
        """Return the form of a version, the latest one if it is None."""
        if version is None:
            return self._forms[-1]
        if not is_index(version, len(self._forms)):
            raise NoVersion(version)
        return self._forms[version]

    def verdict_at(self, *, version=None):
        """Return what find_endless returns for the form of a version."""
        return find_endless(self.form_at(version=version), calm=self._calm)

    def each_version(self):
        """Yield the forms of all versions, version 0 first."""
        for form in self._forms:
            yield form

    def copy(self):
        """Return a new bench of the same class with the same form, changes and calm."""
        twin = self._twin()
        twin._forms = self._forms
        twin._changes = self._changes
        twin._calm = self._calm
        return twin

    def set_calm(self, value):
        """Tell whether only calm beginnings are asked from now on."""
        self._check_free()
        if value is not True and value is not False:
            raise NoTruth(value)
        for form in self._forms:
            self._admit(form, value)
        self._calm = value

    def __getitem__(self, at):
        if not is_index(at, len(self)):
            raise NoLink(at)
        return self._forms[-1][1][at]

    def __setitem__(self, at, worth):
        self.replace(at, worth)

    def __iadd__(self, other):
        self.add(other)
        return self

    def __isub__(self, other):
        self.drop(other)
        return self

    def __iter__(self):
        # Without this Python would ask for link after link.
        raise TypeError("benches are not iterated over")

    def __contains__(self, x):
        sizes, links = self._forms[-1]
        return link_error(sizes, x) is None and x in links

    def __len__(self):
        return len(self._forms[-1][1])

    def __bool__(self):
        return bool(self.verdict_at()[0] == "heights")

    def __str__(self):
        return str(form_text(self._forms[-1]))

    def __eq__(self, other):
        return (
            isinstance(other, Bench) and self.__class__.__name__ == other.__class__.__name__
            and self._forms[-1] == other._forms[-1] and self._calm == other._calm
        )

    def _check_free(self):
        if self._busy:
            raise Busy()

    def _change(self, change):
        self._check_free()
        return self._do(change)

    def _do(self, change):
        if len(self._changes) >= HISTORY:
            raise TooManyChanges()
        form = changed(self._forms[-1], change)
        self._admit(form, self._calm)
        self._forms = self._forms + (form,)
        self._changes = self._changes + (change,)
        return len(self._changes)

    def _step(self, index, change):
        """Do a change of a batch, or reject it."""
        if not is_change(change):
            raise Rejected(index)
        try:
            self._do(change)
        except FieldError:
            raise Rejected(index) from None

    def _admit(self, form, calm):
        """Raise the error for a form that no version may have; here each may be one."""

    def _twin(self):
        return Bench(self._forms[0])


class SafeBench(Bench):
    """A bench no version of which has an endless run from an asked beginning."""

    def __init__(self, form, *, calm=False):
        super().__init__(form)
        if calm is not True and calm is not False:
            raise NoTruth(calm)
        self._admit(form, calm)
        self._calm = calm

    @property
    def evidence(self):
        """The heights that show that no asked run of the present form is endless."""
        return self.verdict_at()[1]

    def _admit(self, form, calm):
        found = endless_beginning(form, calm)
        if found is not None:
            filling, edit = found
            raise GoesOn(filling, edit)

    def _twin(self):
        return SafeBench(self._forms[0], calm=self._calm)
