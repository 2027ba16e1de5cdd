"""Audits: what clients were told, compared with a space."""

# No number of a record is below 0.
_NOTHING_TOLD = -1


def audit(events, space):
    """Return the findings about a list of events."""
    trail = Trail(space)
    findings = []
    for index, event in enumerate(events):
        word = trail.finding(event)
        if word is not None:
            findings.append((word, index))
        trail.note(event)
    return findings


class Trail:
    """What the events so far tell, and the space with which they are compared."""

    def __init__(self, space):
        self._space = space
        # For each asking event, by its client and its number, the latest deed that was asked for.
        self._deeds = {}
        # The greatest number of a written piece that was told before each asking event.
        self._told_before_ask = {}
        self._told_before_look = {}
        self._answered = {}
        self._told = _NOTHING_TOLD

    def note(self, event):
        """Keep what an event tells about those behind it."""
        if event[0] == "asked":
            _, client, serial, deed = event
            self._deeds[(client, serial)] = deed
            self._told_before_ask[(client, serial)] = self._told
        elif event[0] == "looked":
            self._told_before_look[(event[1], event[2])] = self._told
        elif event[0] == "answered":
            _, client, serial, answer = event
            self._answered[(client, serial)] = True
            if answer[0] == "written":
                self._told = max(self._told, answer[1])

    def finding(self, event):
        """Return the word of the finding about the next event, or None."""
        if event[0] == "answered":
            return self._finding_of_answer(event)
        if event[0] == "seen":
            return self._finding_of_view(event)
        return None

    def _finding_of_answer(self, event):
        _, client, serial, answer = event
        key = (client, serial)
        if key not in self._deeds:
            return "unasked"
        if key in self._answered:
            return "again"
        deed = self._deeds[key]
        if deed[0] != "append" or len(deed) != 3 or answer[0] != "written":
            return None
        fault = self._fault_of_piece((answer[1], client, serial, deed[2]), answer)
        if fault is None and self._told_before_ask[key] >= answer[1]:
            return "order"
        return fault

    def _fault_of_piece(self, wanted, answer):
        """Return the word if the space does not have a piece as it was told."""
        node, offset = answer[2:]
        ahead = 0
        for piece in self._pieces_of(node):
            if piece[1:3] == wanted[1:3]:
                if piece != wanted or ahead != offset:
                    return "changed"
                return None
            ahead += len(piece[3])
        return "missing"

    def _finding_of_view(self, event):
        _, client, rid, number, answer = event
        key = (client, rid)
        if key not in self._told_before_look:
            return "unasked"
        if number > self._space.applied:
            return "ahead"
        if self._told_before_look[key] > number:
            return "stale"
        if answer[0] == "content" and answer[3] != self._pieces_up_to(number, answer[1]):
            return "changed"
        return None

    def _pieces_up_to(self, number, node):
        return tuple([piece for piece in self._pieces_of(node) if piece[0] <= number])

    def _pieces_of(self, node):
        """Return the pieces of a file, none if there is no file with this number."""
        answer = self._space.query(("content", node))
        if answer[0] != "content":
            return ()
        return answer[3]
