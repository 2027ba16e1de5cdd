import itertools
import unittest

from appendhall.reads import Reads
from tests.samples import MOST


def pairs(token, journals):
    return [(token, journal) for journal in journals]


class ReadsTest(unittest.TestCase):
    def test_no_read_is_open_at_first(self):
        for journals in range(1, 8):
            reads = Reads(journals)
            self.assertEqual((reads.journals, reads.unanswered()), (journals, []))
            for token in (0, 1, 2, MOST):
                self.assertIsNone(reads.note(token, 0))
            self.assertEqual(reads.unanswered(), [])

    def test_6_13_tokens_from_1_on(self):
        reads = Reads(3)
        for token in range(1, 20):
            self.assertEqual(reads.ask(token % 2, 5, ("find", "/")), token)
        self.assertEqual(Reads(3).ask(0, 1, ("find", "/")), 1)

    def test_6_13_a_token_is_not_used_again(self):
        reads = Reads(1)
        for token in range(1, 6):
            self.assertEqual(reads.ask(0, 7, ("find", "/")), token)
            self.assertEqual(reads.note(token, 0), (0, 7, ("find", "/")))

    def test_6_9_exactly_a_majority(self):
        for journals in range(1, 8):
            needed = journals // 2 + 1
            for order in (list(range(journals)), list(range(journals))[::-1]):
                reads = Reads(journals)
                token = reads.ask(3, 8, ("names", "/a"))
                for journal in order[:needed - 1]:
                    self.assertIsNone(reads.note(token, journal))
                found = reads.note(token, order[needed - 1])
                self.assertEqual(found, (3, 8, ("names", "/a")))
                self.assertIs(type(found), tuple)
                for journal in order:
                    self.assertIsNone(reads.note(token, journal))
                self.assertEqual(reads.unanswered(), [])

    def test_6_9_once_for_each_journal(self):
        reads = Reads(3)
        token = reads.ask(0, 1, ("find", "/"))
        for _ in range(5):
            self.assertIsNone(reads.note(token, 2))
            self.assertEqual(reads.unanswered(), pairs(1, (0, 1)))
        self.assertEqual(reads.note(token, 0), (0, 1, ("find", "/")))

    def test_6_9_closed_and_unknown_tokens_do_nothing(self):
        reads = Reads(3)
        reads.ask(0, 1, ("find", "/"))
        reads.ask(1, 1, ("find", "/a"))
        reads.note(1, 0)
        self.assertEqual(reads.note(1, 1), (0, 1, ("find", "/")))
        before = reads.unanswered()
        for token in (0, 1, 3, 4, MOST):
            for journal in range(3):
                self.assertIsNone(reads.note(token, journal))
                self.assertIsNone(reads.note(token, journal))
        self.assertEqual(reads.unanswered(), before)
        self.assertEqual(before, pairs(2, (0, 1, 2)))
        self.assertEqual(reads.ask(0, 2, ("find", "/")), 3)
        self.assertEqual(reads.unanswered(), before + pairs(3, (0, 1, 2)))

    def test_6_9_each_read_has_its_own_answers(self):
        reads = Reads(3)
        tokens = [reads.ask(client, client + 10, ("content", client)) for client in range(3)]
        self.assertEqual([reads.note(token, 0) for token in tokens], [None, None, None])
        self.assertEqual(reads.note(tokens[1], 2), (1, 11, ("content", 1)))
        self.assertEqual(reads.note(tokens[2], 1), (2, 12, ("content", 2)))
        self.assertIsNone(reads.note(tokens[1], 1))
        self.assertEqual(reads.unanswered(), pairs(1, (1, 2)))
        self.assertEqual(reads.note(tokens[0], 1), (0, 10, ("content", 0)))

    def test_6_15_unanswered(self):
        reads = Reads(3)
        for client in range(4):
            reads.ask(client, 1, ("find", "/"))
        self.assertEqual(reads.unanswered(), list(itertools.product((1, 2, 3, 4), (0, 1, 2))))
        reads.note(3, 1)
        reads.note(2, 2)
        reads.note(1, 2)
        reads.note(1, 0)
        reads.note(4, 0)
        self.assertEqual(reads.unanswered(), pairs(2, (0, 1)) + pairs(3, (0, 2)) + pairs(4, (1, 2)))
        self.assertEqual([type(row) for row in reads.unanswered()], [tuple] * 6)

    def test_6_15_ascending_beyond_nine_tokens_and_journals(self):
        reads = Reads(12)
        for _ in range(12):
            reads.ask(0, 1, ("find", "/"))
        for journal in (11, 2, 10):
            reads.note(10, journal)
        wanted = [row for row in itertools.product(range(1, 13), range(12)) if row not in pairs(10, (2, 10, 11))]
        self.assertEqual(reads.unanswered(), wanted)

    def test_0_4_the_list_is_new(self):
        reads = Reads(2)
        reads.ask(0, 1, ("find", "/"))
        reads.unanswered().clear()
        reads.unanswered().append((1, 0))
        self.assertEqual(reads.unanswered(), [(1, 0), (1, 1)])

    def test_0_4_two_objects_have_no_effect_on_each_other(self):
        one = Reads(2)
        other = Reads(2)
        one.ask(0, 1, ("find", "/"))
        self.assertEqual(other.unanswered(), [])
        other.ask(0, 1, ("find", "/"))
        one.note(1, 0)
        self.assertEqual(other.unanswered(), [(1, 0), (1, 1)])


if __name__ == "__main__":
    unittest.main()
