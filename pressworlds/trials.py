"""Trials: with statements behind which, if they end with an exception, all is as it was when they began."""


class Saved:
    """What an owner had done when a trial began, and what was saved ahead of that by the same trial."""

    def __init__(self, past, before):
        self.past = past
        self.before = before


class Trial:
    """A trial of an object that keeps all that it has done in one tuple, its past."""

    def __init__(self, owner):
        self.owner = owner
        self.saved = None

    def __enter__(self):
        # A trial may be begun once more while it goes on.
        self.saved = Saved(self.owner.past, self.saved)
        return self.owner

    def __exit__(self, kind, value, trace):
        owner = self.owner
        if kind is not None:
            owner.past = self.saved.past
        self.saved = self.saved.before
