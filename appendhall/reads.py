"""The open reads of a manager."""

from appendhall.quorum import has_majority


class Reads:
    """The open reads of one epoch, none at first."""

    def __init__(self, journals):
        self.journals = journals
        self._last_token = 0
        # What was asked for and which journals have answered, by the tokens of the open reads.
        self._asked = {}
        self._answered = {}

    def ask(self, client, rid, query):
        """Open a read and return its token."""
        self._last_token += 1
        self._asked[self._last_token] = (client, rid, query)
        self._answered[self._last_token] = []
        return self._last_token

    def note(self, token, journal):
        """Keep that a journal has answered; return the read if that closes it, otherwise None."""
        if token not in self._asked:
            return None
        answered = self._answered[token]
        if journal not in answered:
            answered.append(journal)
        if not has_majority(answered, self.journals):
            return None
        del self._answered[token]
        return self._asked.pop(token)

    def unanswered(self):
        """Return the pairs of a token and a journal that has not answered it, in ascending order."""
        pairs = []
        for token in sorted(self._answered):
            answered = self._answered[token]
            pairs.extend([(token, journal) for journal in range(self.journals) if journal not in answered])
        return pairs
