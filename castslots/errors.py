"""What castslots refuses: an error class for each kind of refusal."""


class SlotError(ValueError):
    """Any refusal."""


class BadFamily(SlotError):
    """A family that is none; number tells the first bad kind, or 7 for too many kinds."""

    def __init__(self, number):
        SlotError.__init__(self, f"no family: see kind {number}")
        self.number = number


class NoKind(SlotError):
    """A kind that the family doesn't have."""


class NoPart(SlotError):
    """A part that things of the kind don't have."""


class NoElder(SlotError):
    """An elder that the kind doesn't have, or not as the question needs it."""


class BadAsked(SlotError):
    """What is asked is no such list; number tells the first bad pair, or 60 for too many."""

    def __init__(self, number):
        SlotError.__init__(self, f"this can't be asked: see pair {number}")
        self.number = number


class NotAsked(SlotError):
    """A deed that is none of the numbers of the part's kind."""


class NoMatch(SlotError):
    """Two families with unlike counts of kinds."""


class BadText(SlotError):
    """A text in which a row writes no kind; row tells the first such row."""

    def __init__(self, row):
        SlotError.__init__(self, f"no family is written here: see row {row}")
        self.row = row
