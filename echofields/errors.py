"""All errors of the package, each with the fields that it was created with."""


class FieldError(ValueError):
    """What all errors of the package have as their base."""


class BadBatch(FieldError):
    """What should be a batch is not a tuple, or has too many items."""


class BadEdit(FieldError):
    """What was given is not an edit of the form."""

    def __init__(self, given):
        self.given = given


class BadEdits(FieldError):
    """Not a row of edits: number is the place of its first wrong item, None if it is no such tuple."""

    def __init__(self, number):
        self.number = number


class BadFields(FieldError):
    """What was given is not an ascending tuple of fields of the form."""

    def __init__(self, given):
        self.given = given


class BadFilling(FieldError):
    """What was given is not a filling of the form."""

    def __init__(self, given):
        self.given = given


class BadForm(FieldError):
    """Not a form: error is what form_error tells of it."""

    def __init__(self, error):
        self.error = error


class BadLink(FieldError):
    """Not a link of the form: error is the word for what is wrong with it."""

    def __init__(self, error):
        self.error = error


class BadLinks(FieldError):
    """What was given is not an ascending tuple of links of the form."""

    def __init__(self, given):
        self.given = given


class BadMoment(FieldError):
    """What was given is not a moment of the form."""

    def __init__(self, given):
        self.given = given


class BadOrder(FieldError):
    """Not an order of the run: number is the place where it fails, None if it is no such tuple."""

    def __init__(self, number):
        self.number = number


class BadText(FieldError):
    """What was given is not the text of such a thing."""

    def __init__(self, given):
        self.given = given


class Busy(FieldError):
    """The bench is within an attempt, and cannot be changed now."""


class Endless(FieldError):
    """A run goes on for ever: order leads to a moment to which ring leads back."""

    def __init__(self, order, ring):
        self.order = order
        self.ring = ring


class GoesOn(FieldError):
    """The form would have a run that goes on for ever, from the filling begun by the edit."""

    def __init__(self, begun, edit):
        self.begun = begun
        self.edit = edit


class NoField(FieldError):
    """What was given is not a field of the form."""

    def __init__(self, given):
        self.given = given


class NoGuard(FieldError):
    """What was given is not a guard."""

    def __init__(self, given):
        self.given = given


class NoItem(FieldError):
    """What was given is neither None nor a value of the target."""

    def __init__(self, given):
        self.given = given


class NoLink(FieldError):
    """What was given is not the index of such a link."""

    def __init__(self, given):
        self.given = given


class NoNumber(FieldError):
    """What was given is not an integer within the limits."""

    def __init__(self, given):
        self.given = given


class NoRule(FieldError):
    """What was given is not a rule."""

    def __init__(self, given):
        self.given = given


class NothingToUndo(FieldError):
    """No change stands that could be taken back."""


class NoTruth(FieldError):
    """What was given is neither True nor False."""

    def __init__(self, given):
        self.given = given


class NoValue(FieldError):
    """What was given is not a value of the source."""

    def __init__(self, given):
        self.given = given


class NoVersion(FieldError):
    """What was given is not a version of the bench."""

    def __init__(self, given):
        self.given = given


class NoWay(FieldError):
    """What was given is not a way to treat links."""

    def __init__(self, given):
        self.given = given


class Rejected(FieldError):
    """The item with this index cannot be done, so nothing of its batch was."""

    def __init__(self, index):
        self.index = index


class TooMany(FieldError):
    """There are as many links as the limit allows."""

    def __init__(self, limit):
        self.limit = limit


class TooManyChanges(FieldError):
    """As many changes stand as are allowed."""


class TooManyMoments(FieldError):
    """More moments are reached than are allowed."""


class UnlikeForms(FieldError):
    """The sizes of the two forms differ."""


class Unsettled(FieldError):
    """The form is not settled, as the filling begun and the edit show."""

    def __init__(self, begun, edit):
        self.begun = begun
        self.edit = edit
