"""The refusals: one class for each kind, all of them under KeyrollError."""


class KeyrollError(ValueError):
    """Any refusal."""


class BadBook(KeyrollError):
    """A book cannot have so many persons or doors, or so few."""


class BadKey(KeyrollError):
    """A key or a lock cannot be so; `word` is "opens", "many" or "kind"."""

    def __init__(self, word):
        KeyrollError.__init__(self, f"the key or lock is refused: {word}")
        self.word = word


class NoOne(KeyrollError):
    """There is no such person, key or door."""


class BadPlace(KeyrollError):
    """There is no such place in the row, or the row is full."""


class BadTimes(KeyrollError):
    """An entry cannot be begun; `place` is where it would stand in the row."""

    def __init__(self, place):
        KeyrollError.__init__(self, f"the entry at place {place} cannot be begun")
        self.place = place


class NoMoment(KeyrollError):
    """There is no such moment."""
