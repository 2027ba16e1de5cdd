import itertools
import unittest

from appendhall.election import Election
from appendhall.errors import TooFew
from appendhall.log import Log
from tests.samples import MOST


def log_of(length, base=0, mark="r"):
    """A log of this length that no other one of these tests equals by chance."""
    return Log(base, mark, tuple((0, number, (mark,)) for number in range(base + 1, length + 1)))


class ElectionTest(unittest.TestCase):
    def test_3_8_nothing_is_promised_at_first(self):
        for journals in range(1, 8):
            election = Election(journals)
            self.assertEqual(election.journals, journals)
            self.assertIs(election.decided(), False)
            self.assertEqual([election.promised(journal) for journal in range(journals)], [False] * journals)
            with self.assertRaises(TooFew):
                election.choice()
            self.assertIs(election.decided(), False)

    def test_6_6_a_promise(self):
        election = Election(3)
        self.assertIsNone(election.note(1, 4, log_of(2)))
        self.assertEqual([election.promised(journal) for journal in range(3)], [False, True, False])
        self.assertIs(election.promised(1), True)
        self.assertIs(election.promised(0), False)

    def test_3_8_decided_by_a_majority(self):
        for journals in range(1, 8):
            for order in (list(range(journals)), list(range(journals))[::-1]):
                election = Election(journals)
                for count, journal in enumerate(order, 1):
                    election.note(journal, 0, log_of(0))
                    self.assertIs(election.decided(), 2 * count > journals)

    def test_3_8_a_journal_counts_once(self):
        election = Election(4)
        for _ in range(5):
            election.note(2, 0, log_of(0))
            election.note(0, 0, log_of(0))
            self.assertIs(election.decided(), False)
        election.note(3, 0, log_of(0))
        self.assertIs(election.decided(), True)

    def test_6_6_the_first_promise_of_a_journal_counts(self):
        election = Election(3)
        first = log_of(2)
        election.note(0, 3, first)
        self.assertIsNone(election.note(0, 9, log_of(9)))
        self.assertIsNone(election.note(0, 0, log_of(0)))
        self.assertEqual(election.choice().value(), first.value())
        other = log_of(1, mark="other")
        election.note(1, 4, other)
        self.assertEqual(election.choice().value(), other.value())
        election.note(1, 2, log_of(0))
        election.note(1, 4, log_of(7))
        self.assertEqual(election.choice().value(), other.value())

    def test_3_10_the_best_log(self):
        rows = [
            ([(0, 3, 5), (1, 4, 2)], 1),            # the greatest epoch
            ([(0, 4, 2), (1, 3, 5)], 0),
            ([(0, 4, 2), (1, 4, 3), (2, 4, 1)], 1),  # then the greatest length
            ([(0, 4, 3), (1, 4, 3), (2, 4, 3)], 0),  # then the least number
            ([(0, 0, 0), (1, 0, 0)], 0),
            ([(0, 1, 9), (1, 2, 0), (2, 2, 4)], 2),
            ([(0, MOST - 1, 9), (1, MOST, 0)], 1),
            ([(3, 2, 2), (1, 2, 2), (4, 2, 2)], 1),
        ]
        for promises, best in rows:
            for order in itertools.permutations(promises):
                election = Election(5)
                for journal, epoch, length in order:
                    election.note(journal, epoch, log_of(length, mark=f"j{journal}"))
                with self.subTest(order=order):
                    self.assertEqual(election.choice().image, f"j{best}")

    def test_3_10_the_length_is_that_of_the_log_and_not_of_its_records(self):
        election = Election(2)
        election.note(0, 4, log_of(5, base=0, mark="five"))
        election.note(1, 4, log_of(8, base=7, mark="one"))
        self.assertEqual(election.choice().value(), log_of(8, base=7, mark="one").value())

    def test_6_6_a_choice_before_a_majority(self):
        election = Election(7)
        election.note(5, 1, log_of(3))
        self.assertIs(election.decided(), False)
        self.assertEqual(election.choice().value(), log_of(3).value())

    def test_6_6_all_logs_of_three_journals(self):
        for told in itertools.product(itertools.product((0, 2), (0, 1, 3)), repeat=3):
            election = Election(3)
            for journal, (epoch, length) in enumerate(told):
                election.note(journal, epoch, log_of(length, mark=f"j{journal}"))
            greatest = max(told)
            self.assertEqual(election.choice().image, f"j{told.index(greatest)}")

    def test_one_journal(self):
        election = Election(1)
        election.note(0, 0, log_of(0))
        self.assertIs(election.decided(), True)
        self.assertEqual(election.choice().value(), log_of(0).value())

    def test_0_4_choosing_changes_nothing(self):
        election = Election(3)
        log = log_of(2)
        election.note(2, 1, log)
        for _ in range(3):
            self.assertEqual(election.choice().value(), log_of(2).value())
            self.assertEqual([election.promised(journal) for journal in range(3)], [False, False, True])
            self.assertIs(election.decided(), False)
        self.assertEqual(log.value(), log_of(2).value())

    def test_0_4_two_elections_have_no_effect_on_each_other(self):
        one = Election(1)
        other = Election(1)
        one.note(0, 1, log_of(1))
        self.assertEqual((other.decided(), other.promised(0)), (False, False))


if __name__ == "__main__":
    unittest.main()
