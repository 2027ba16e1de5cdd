"""The promises of the journals for one epoch."""

from appendhall.quorum import best, has_majority


class Election:
    """The promises for one epoch, none at first."""

    def __init__(self, journals):
        self.journals = journals
        # The epoch of the log and the log that each journal promised with.
        self._promises = {}

    def note(self, journal, epoch, log):
        """Keep the first promise of a journal."""
        if journal not in self._promises:
            self._promises[journal] = (epoch, log)

    def promised(self, journal):
        """Tell whether a promise of this journal is kept."""
        return journal in self._promises

    def decided(self):
        """Tell whether a majority of the journals has promised."""
        return has_majority(list(self._promises), self.journals)

    def choice(self):
        """Return the best log of all promises."""
        candidates = []
        for journal, (epoch, log) in self._promises.items():
            candidates.append((journal, epoch, log.length))
        return self._promises[best(candidates)][1]
