import unittest

from appendhall.audit import audit
from appendhall.space import Space
from tests.draws import Draws
from tests.samples import MOST
from tests.test_space import filled, view

CREATE = (0, 1, ("create", "/a"))
RECORDS = [
    CREATE,
    (0, 2, ("append", "/a", "xy")),         # 2
    (1, 1, ("append", "/a", "z")),          # 3
    (1, 2, ("create", "/b")),               # 4
    (1, 3, ("append", "/b", "bb")),         # 5
    (0, 3, ("append", "/a", "more")),       # 6
    (0, 4, ("snapshot", "/a", "/copy")),    # 7, node 3
    (0, 5, ("append", "/b", "last")),       # 8
    (0, 6, ("mkdir", "/d")),                # 9, node 4
]
A = ((2, 0, 2, "xy"), (3, 1, 1, "z"), (6, 0, 3, "more"))
B = ((5, 1, 3, "bb"), (8, 0, 5, "last"))


def asked(client, serial, text, path="/a"):
    return ("asked", client, serial, ("append", path, text))


def written(client, serial, number, node, offset):
    return ("answered", client, serial, ("written", number, node, offset))


def looked(client, rid, query=("content", 1)):
    return ("looked", client, rid, query)


def content(client, rid, number, pieces, node=1, sealed=0):
    return ("seen", client, rid, number, ("content", node, sealed, pieces))


def seen(client, rid, number, answer=("node", 0, 0, 0)):
    return ("seen", client, rid, number, answer)


class AuditTest(unittest.TestCase):
    def check(self, events, findings, records=RECORDS):
        space = filled(records)
        before, passed = view(space), list(events)
        found = audit(passed, space)
        self.assertEqual(found, findings)
        self.assertTrue(type(found) is list and all(type(finding) is tuple for finding in found))
        self.assertEqual((view(space), passed), (before, list(events)))


class AnswersTest(AuditTest):
    def test_the_examples(self):
        records = [(0, 1, ("create", "/a")), (0, 2, ("append", "/a", "xy"))]
        self.check([asked(0, 2, "xy"), written(0, 2, 2, 1, 0)], [], records)
        self.check([asked(0, 2, "xz"), written(0, 2, 2, 1, 0)], [("changed", 1)], records)

    def test_10_2_no_events(self):
        self.assertEqual(audit([], Space()), [])
        self.check([], [])

    def test_10_3_all_that_was_written(self):
        events = [
            asked(0, 2, "xy"), written(0, 2, 2, 1, 0), asked(1, 1, "z"), written(1, 1, 3, 1, 2),
            asked(1, 3, "bb", "/b"), written(1, 3, 5, 2, 0), asked(0, 3, "more"), written(0, 3, 6, 1, 3),
            asked(0, 5, "last", "/b"), written(0, 5, 8, 2, 2),
        ]
        self.check(events, [])

    def test_10_3_unasked(self):
        self.check([written(0, 2, 2, 1, 0)], [("unasked", 0)])
        self.check([asked(0, 3, "xy"), written(0, 2, 2, 1, 0)], [("unasked", 1)])
        self.check([asked(1, 2, "xy"), written(0, 2, 2, 1, 0)], [("unasked", 1)])
        self.check([written(0, 2, 2, 1, 0), asked(0, 2, "xy")], [("unasked", 0)])
        self.check([looked(0, 2), written(0, 2, 2, 1, 0)], [("unasked", 1)])
        self.check([("answered", 0, 1, ("made", 1))], [("unasked", 0)])

    def test_10_3_again(self):
        self.check([asked(0, 2, "xy"), written(0, 2, 2, 1, 0), written(0, 2, 2, 1, 0)], [("again", 2)])
        made = ("answered", 0, 1, ("made", 1))
        self.check([("asked", 0, 1, CREATE[2]), made, made, made], [("again", 2), ("again", 3)])
        refused = ("answered", 0, 1, ("refused", "path"))
        self.check([("asked", 0, 1, CREATE[2]), made, ("asked", 0, 1, CREATE[2]), refused], [("again", 3)])
        self.check([("asked", 0, 1, CREATE[2]), made, ("asked", 1, 1, CREATE[2]), ("answered", 1, 1, ("made", 1))], [])

    def test_10_3_missing(self):
        for node in (0, 4, 5, 9, 63, 64, -1, MOST):
            self.check([asked(0, 2, "xy"), written(0, 2, 2, node, 0)], [("missing", 1)])
        # The file has no piece of this client and serial.
        self.check([asked(0, 2, "xy"), written(0, 2, 2, 2, 0)], [("missing", 1)])
        self.check([asked(2, 2, "xy"), written(2, 2, 2, 1, 0)], [("missing", 1)])
        self.check([asked(1, 2, "xy"), written(1, 2, 2, 1, 0)], [("missing", 1)])
        self.check([asked(0, 1, "xy"), written(0, 1, 2, 1, 0)], [("missing", 1)])

    def test_10_3_changed(self):
        self.check([asked(0, 2, "xz"), written(0, 2, 2, 1, 0)], [("changed", 1)])
        self.check([asked(0, 2, ""), written(0, 2, 2, 1, 0)], [("changed", 1)])
        self.check([("asked", 0, 2, ("append", "/a", 5)), written(0, 2, 2, 1, 0)], [("changed", 1)])
        for number in (1, 3, 6, MOST):
            self.check([asked(0, 2, "xy"), written(0, 2, number, 1, 0)], [("changed", 1)])
        for offset in (1, 2, -1, 7):
            self.check([asked(0, 2, "xy"), written(0, 2, 2, 1, offset)], [("changed", 1)])
        for offset in (0, 1, 2, 4):
            self.check([asked(0, 3, "more"), written(0, 3, 6, 1, offset)], [("changed", 1)])
        self.check([asked(0, 3, "more"), written(0, 3, 6, 1, 3)], [])

    def test_10_3_pieces_of_a_copy_are_pieces_of_that_file(self):
        self.check([asked(0, 2, "xy"), written(0, 2, 2, 3, 0)], [])
        self.check([asked(0, 5, "last", "/b"), written(0, 5, 8, 3, 2)], [("missing", 1)])

    def test_10_3_the_path_is_not_compared(self):
        self.check([asked(0, 2, "xy", "/elsewhere"), written(0, 2, 2, 1, 0)], [])

    def test_10_3_the_latest_asking_event_counts(self):
        self.check([asked(0, 2, "other"), asked(0, 2, "xy"), written(0, 2, 2, 1, 0)], [])
        self.check([asked(0, 2, "xy"), asked(0, 2, "other"), written(0, 2, 2, 1, 0)], [("changed", 2)])
        self.check([asked(0, 2, "xy"), written(0, 2, 2, 1, 0), asked(0, 2, "other")], [])
        self.check([asked(0, 2, "other"), ("asked", 0, 2, ("seal", "/a")), written(0, 2, 2, 1, 0)], [])

    def test_10_3_order(self):
        first = [asked(1, 1, "z"), written(1, 1, 3, 1, 2)]
        later = [asked(0, 2, "xy"), written(0, 2, 2, 1, 0)]
        self.check(later + first, [])
        self.check(first + later, [("order", 3)])
        # of whatever file
        other = [asked(1, 3, "bb", "/b"), written(1, 3, 5, 2, 0)]
        self.check(other + later, [("order", 3)])
        # asked for before the other one was answered
        self.check([later[0], first[0], first[1], later[1]], [])
        self.check([first[0], later[0], first[1], later[1]], [])
        # an equal number
        self.check([asked(5, 1, "xy"), written(5, 1, 2, 1, 0)] + later, [("missing", 1), ("order", 3)])
        # the latest asking event counts
        self.check([asked(0, 2, "xy")] + first + later, [("order", 4)])
        self.check(first + [asked(0, 2, "xy")] + later[1:], [("order", 3)])

    def test_10_3_order_with_the_greatest_number_told(self):
        six = [asked(0, 3, "more"), written(0, 3, 6, 1, 3)]
        two = [asked(0, 2, "xy"), written(0, 2, 2, 1, 0)]
        three = [asked(1, 1, "z"), written(1, 1, 3, 1, 2)]
        self.check(six + two + three, [("order", 3), ("order", 5)])
        self.check(two + six + three, [("order", 5)])
        self.check(two + three + six, [])

    def test_10_3_pieces_are_told_by_answers_of_whatever_event(self):
        later = [asked(0, 2, "xy"), written(0, 2, 2, 1, 0)]
        self.check([written(7, 1, 3, 1, 0)] + later, [("unasked", 0), ("order", 2)])
        told = [("asked", 7, 1, ("seal", "/a")), written(7, 1, 3, 1, 0)]
        self.check(told + later, [("order", 3)])
        for answer in (("made", 9), ("sealed", 1, 9), ("limited", 0, 9), ("refused", "path"), ("skipped",), ("moved", 9)):
            self.check([("asked", 7, 1, CREATE[2]), ("answered", 7, 1, answer)] + later, [])

    def test_10_3_other_deeds_and_other_answers(self):
        for deed in (("create", "/a"), ("append", "/a"), ("append", "/a", "xy", "z"), ("append",), ("Append", "/a", "xy")):
            self.check([("asked", 0, 2, deed), written(0, 2, 99, 77, 5)], [])
        for answer in (("refused", "limit"), ("skipped",), ("made", 1), ("sealed", 1, 2), ("moved", 1), ("limited", 0, 5)):
            self.check([asked(0, 2, "other"), ("answered", 0, 2, answer)], [])

    def test_10_3_each_pair_of_findings(self):
        three = [asked(1, 1, "z"), written(1, 1, 3, 1, 2)]
        one = asked(0, 2, "xy")
        # unasked and again
        self.check([written(0, 2, 2, 1, 0), written(0, 2, 2, 1, 0)], [("unasked", 0), ("unasked", 1)])
        # again and missing, changed, order
        self.check([one, written(0, 2, 2, 1, 0), written(0, 2, 2, 9, 0)], [("again", 2)])
        self.check([one, written(0, 2, 2, 1, 0), written(0, 2, 3, 1, 1)], [("again", 2)])
        self.check([one, written(0, 2, 2, 1, 0)] + three + [one, written(0, 2, 2, 1, 0)], [("again", 5)])
        # missing and order, changed and order
        self.check(three + [one, written(0, 2, 2, 9, 0)], [("missing", 3)])
        self.check(three + [one, written(0, 2, 2, 1, 1)], [("changed", 3)])
        self.check(three + [asked(0, 2, "no"), written(0, 2, 2, 1, 0)], [("changed", 3)])


class ViewsTest(AuditTest):
    def test_10_4_views_of_each_number(self):
        for number in range(1, 10):
            pieces = tuple(piece for piece in A if piece[0] <= number)
            self.check([looked(0, 1), content(0, 1, number, pieces)], [])
            self.check([looked(0, 1), content(0, 1, number, pieces, sealed=1)], [])

    def test_10_4_unasked(self):
        self.check([content(0, 1, 9, A)], [("unasked", 0)])
        self.check([looked(0, 2), content(0, 1, 9, A)], [("unasked", 1)])
        self.check([looked(1, 1), content(0, 1, 9, A)], [("unasked", 1)])
        self.check([asked(0, 1, "x"), content(0, 1, 9, A)], [("unasked", 1)])
        self.check([content(0, 1, 9, A), looked(0, 1)], [("unasked", 0)])

    def test_10_4_a_view_may_be_seen_again(self):
        self.check([looked(0, 1), content(0, 1, 9, A), content(0, 1, 9, A)], [])

    def test_10_4_ahead(self):
        for number in (10, 11, MOST):
            self.check([looked(0, 1), content(0, 1, number, A)], [("ahead", 1)])
            self.check([looked(0, 1), seen(0, 1, number)], [("ahead", 1)])
        self.check([looked(0, 1), seen(0, 1, 9)], [])
        self.check([looked(0, 1), seen(0, 1, 1)], [("ahead", 1)], [])
        self.check([looked(0, 1), seen(0, 1, 0)], [], [])

    def test_10_4_stale(self):
        first = [asked(1, 1, "z"), written(1, 1, 3, 1, 2)]
        for number, findings in ((0, [("stale", 3)]), (2, [("stale", 3)]), (3, []), (4, [])):
            pieces = tuple(piece for piece in A if piece[0] <= number)
            self.check(first + [looked(0, 1), content(0, 1, number, pieces)], findings)
            self.check(first + [looked(0, 1), seen(0, 1, number)], findings)
            self.check([looked(0, 1)] + first + [seen(0, 1, number)], [])
            self.check([first[0], looked(0, 1), first[1], seen(0, 1, number)], [])
            # of whatever file
            self.check(first + [looked(0, 1), content(0, 1, number, (), node=2)], findings)
        self.check([looked(0, 1)] + first + [looked(0, 1), seen(0, 1, 2)], [("stale", 4)])
        self.check([asked(0, 1, "x"), ("answered", 0, 1, ("made", 8)), looked(0, 1), seen(0, 1, 2)], [])
        self.check([written(7, 1, 3, 1, 0), looked(0, 1), seen(0, 1, 2)], [("unasked", 0), ("stale", 2)])

    def test_10_4_changed(self):
        for pieces in ((), A[:1], A[:2], A[1:], A[::-1], A + B[:1], A + A[:1], A[:2] + ((6, 0, 3, "mere"),),
                       A[:2] + ((7, 0, 3, "more"),), A[:2] + ((6, 1, 3, "more"),), A[:2] + ((6, 0, 4, "more"),)):
            self.check([looked(0, 1), content(0, 1, 9, pieces)], [("changed", 1)])
        self.check([looked(0, 1), content(0, 1, 5, A)], [("changed", 1)])
        self.check([looked(0, 1), content(0, 1, 5, A[:2])], [])
        self.check([looked(0, 1), content(0, 1, 0, ())], [])

    def test_10_4_other_files_and_nodes_that_are_no_files(self):
        self.check([looked(0, 1), content(0, 1, 9, B, node=2)], [])
        self.check([looked(0, 1), content(0, 1, 7, B[:1], node=2)], [])
        self.check([looked(0, 1), content(0, 1, 9, A, node=3, sealed=1)], [])
        for node in (0, 4, 5, 64, -1, MOST):
            self.check([looked(0, 1), content(0, 1, 9, (), node=node)], [])
            self.check([looked(0, 1), content(0, 1, 9, A[:1], node=node)], [("changed", 1)])

    def test_10_4_other_answers(self):
        for answer in (("refused", "missing"), ("refused", "deed"), ("node", 1, 1, 99), ("names", ("x", "y")), ("names", ())):
            self.check([looked(0, 1), seen(0, 1, 9, answer)], [])

    def test_10_4_each_pair_of_findings(self):
        eight = [asked(0, 5, "last", "/b"), written(0, 5, 8, 2, 2)]
        beyond = [asked(7, 1, "x"), written(7, 1, 20, 1, 0)]
        # unasked and ahead, unasked and changed
        self.check([content(0, 1, 10, A)], [("unasked", 0)])
        self.check([content(0, 1, 9, ())], [("unasked", 0)])
        # ahead and stale, ahead and changed
        self.check(beyond + [looked(0, 1), seen(0, 1, 10)], [("missing", 1), ("ahead", 3)])
        self.check([looked(0, 1), content(0, 1, 10, ())], [("ahead", 1)])
        # stale and changed
        self.check(eight + [looked(0, 1), content(0, 1, 7, ())], [("stale", 3)])


class ManyEventsTest(AuditTest):
    def test_10_2_findings_in_the_order_of_the_events(self):
        events = [
            written(9, 9, 1, 1, 0), looked(0, 1), seen(0, 1, 99), asked(0, 2, "xz"), written(0, 2, 2, 1, 0),
            written(0, 2, 2, 1, 0), seen(5, 5, 1), asked(1, 1, "z"), written(1, 1, 3, 7, 2),
        ]
        self.check(events, [("unasked", 0), ("ahead", 2), ("changed", 4), ("again", 5), ("unasked", 6), ("missing", 8)])

    def test_10_5_events_of_other_kinds(self):
        self.check([asked(9, 9, "no"), looked(9, 9), asked(9, 9, "no"), looked(9, 9), looked(0, 0)], [])

    def test_0_4_the_list_is_new(self):
        events = [written(0, 2, 2, 1, 0)]
        space = filled(RECORDS)
        audit(events, space).clear()
        self.assertEqual(audit(events, space), [("unasked", 0)])

    def test_10_2_drawn_events(self):
        """Drawn events, compared with a search through all earlier events for each of them."""
        space = filled(RECORDS)
        words = {}
        for seed in range(1500):
            events = drawn_events(Draws(seed))
            findings = [(word, at) for at in range(len(events)) for word in [searched(events, at, space)] if word]
            self.assertEqual(audit(events, space), findings)
            for word, _ in findings:
                words[word] = words.get(word, 0) + 1
        self.assertEqual(sorted(words), ["again", "ahead", "changed", "missing", "order", "stale", "unasked"])
        self.assertGreater(min(words.values()), 50)


def drawn_events(draws):
    appends = [(client, serial, deed[2], deed[1]) for client, serial, deed in RECORDS if deed[0] == "append"]
    answers = {(0, 2): (2, 1, 0), (1, 1): (3, 1, 2), (1, 3): (5, 2, 0), (0, 3): (6, 1, 3), (0, 5): (8, 2, 2)}
    events = []
    for _ in range(draws.randrange(2, 25)):
        client, serial, text, path = draws.choice(appends)
        number, node, offset = answers[(client, serial)]
        word = draws.weighted({"asked": 8, "answered": 9, "looked": 4, "seen": 5, "other": 1})
        if word == "asked":
            events.append(asked(client, serial, text if draws.chance(90) else "no", path))
        elif word == "answered":
            if draws.chance(15):
                number, node, offset = number + draws.randrange(2), draws.randrange(4), offset + draws.randrange(2)
            events.append(written(client, serial, number, node, offset))
        elif word == "looked":
            events.append(looked(client, draws.randrange(1, 3)))
        elif word == "seen":
            number = draws.randrange(4, 11)
            pieces = tuple(piece for piece in A if piece[0] <= number)
            rid = draws.randrange(1, 3)
            events.append(content(client, rid, number, pieces if draws.chance(85) else pieces[1:]))
        else:
            events.append(("answered", client, serial, draws.choice((("skipped",), ("refused", "limit")))))
    return events


def searched(events, at, space):
    """The finding about one event, by the words of 10.3 and 10.4."""
    word, client, number, *rest = events[at]
    if word not in ("answered", "seen"):
        return None
    asking = {"answered": "asked", "seen": "looked"}[word]
    found = [index for index in range(at) if events[index][:3] == (asking, client, number)]
    if not found:
        return "unasked"
    told = [event[3][1] for event in events[:found[-1]] if event[0] == "answered" and event[3][0] == "written"]
    if word == "answered":
        return searched_answer(events, at, space, events[found[-1]][3], told)
    commit, answer = rest
    if commit > space.applied:
        return "ahead"
    if any(other > commit for other in told):
        return "stale"
    if answer[0] == "content":
        file = space.query(("content", answer[1]))
        pieces = file[3] if file[0] == "content" else ()
        if answer[3] != tuple(piece for piece in pieces if piece[0] <= commit):
            return "changed"
    return None


def searched_answer(events, at, space, deed, told):
    _, client, serial, answer = events[at]
    if any(event[:3] == ("answered", client, serial) for event in events[:at]):
        return "again"
    if deed[0] != "append" or len(deed) != 3 or answer[0] != "written":
        return None
    _, number, node, offset = answer
    file = space.query(("content", node))
    pieces = file[3] if file[0] == "content" else ()
    places = [place for place, piece in enumerate(pieces) if piece[1:3] == (client, serial)]
    if not places:
        return "missing"
    ahead = sum(len(piece[3]) for piece in pieces[:places[0]])
    if pieces[places[0]] != (number, client, serial, deed[2]) or ahead != offset:
        return "changed"
    return "order" if any(other >= number for other in told) else None


if __name__ == "__main__":
    unittest.main()
