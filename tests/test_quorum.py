import itertools
import unittest

from appendhall.errors import TooFew
from appendhall.quorum import best, commit_point, has_majority, majority
from tests.samples import FAR, MOST


class MajorityTest(unittest.TestCase):
    def test_3_8_majority(self):
        self.assertEqual([majority(count) for count in range(10)], [1, 1, 2, 2, 3, 3, 4, 4, 5, 5])
        self.assertEqual(majority(MOST), MOST // 2 + 1)
        self.assertEqual(majority(MOST - 1), MOST // 2)

    def test_3_8_has_majority(self):
        for count in range(0, 6):
            for size in range(0, 5):
                for members in itertools.product((-1, 0, 1, 2, 4, 5, MOST), repeat=size):
                    own = [number for number in range(count) if number in members]
                    with self.subTest(count=count, members=members):
                        self.assertIs(has_majority(list(members), count), 2 * len(own) > count)

    def test_3_8_no_journals_have_no_majority(self):
        for members in ([], [0], [0, 1, 2], [-1]):
            self.assertIs(has_majority(members, 0), False)

    def test_3_8_a_number_counts_once(self):
        self.assertIs(has_majority([1, 1, 1, 1], 3), False)
        self.assertIs(has_majority([1, 1, 2, 1], 3), True)
        self.assertIs(has_majority([0], 1), True)
        self.assertIs(has_majority([0, 1], 4), False)
        self.assertIs(has_majority([0, 1, 3], 4), True)

    def test_3_8_other_integers_do_not_count(self):
        self.assertIs(has_majority([0, 3, -1], 3), False)
        self.assertIs(has_majority([0, 3, 4, 5, -1, -2, FAR, -FAR], 3), False)
        self.assertIs(has_majority([0, 3, 4, 5, -1, -2, 2], 3), True)
        self.assertIs(has_majority([1], 1), False)

    def test_3_8_vast_counts(self):
        self.assertIs(has_majority([0, 1, MOST - 1], MOST), False)

    def test_0_4_the_list_stays_as_it_was(self):
        members = [2, 0, 2, 9]
        has_majority(members, 3)
        self.assertEqual(members, [2, 0, 2, 9])


class CommitPointTest(unittest.TestCase):
    def test_3_9_the_example(self):
        self.assertEqual(commit_point({0: 7, 2: 5}, 3), 5)

    def test_3_9_all_small_cases(self):
        for count in range(1, 6):
            for told in itertools.product((None, 0, 3, 4, 9), repeat=count):
                matched = {journal: length for journal, length in enumerate(told) if length is not None}
                lengths = [length or 0 for length in told]
                wanted = max(n for n in range(10) if 2 * len([m for m in lengths if m >= n]) > count)
                with self.subTest(count=count, matched=matched):
                    self.assertEqual(commit_point(matched, count), wanted)

    def test_3_9_keys_that_are_no_journal(self):
        self.assertEqual(commit_point({0: 7, 3: 9, -1: 9, FAR: 9, -FAR: 9}, 3), 0)
        self.assertEqual(commit_point({0: 7, 1: 4, 3: 9, -1: 9}, 3), 4)
        self.assertEqual(commit_point({1: 4}, 1), 0)
        self.assertEqual(commit_point({0: 4, 1: 9}, 1), 4)

    def test_3_9_missing_lengths(self):
        self.assertEqual(commit_point({}, 1), 0)
        self.assertEqual(commit_point({}, 7), 0)
        self.assertEqual(commit_point({5: 8}, 7), 0)
        self.assertEqual(commit_point({5: 8, 1: MOST, 0: 8, 2: 3}, 7), 3)
        self.assertEqual(commit_point({0: 5, 1: 6}, MOST), 0)
        self.assertEqual(commit_point({0: MOST}, 1), MOST)

    def test_0_4_the_dict_stays_as_it_was(self):
        matched = {2: 5, 0: 7, 9: 1}
        commit_point(matched, 3)
        self.assertEqual(list(matched.items()), [(2, 5), (0, 7), (9, 1)])


class BestTest(unittest.TestCase):
    def test_3_10_the_example(self):
        self.assertEqual(best([(0, 3, 9), (1, 4, 2), (2, 4, 2)]), 1)

    def test_3_10_no_candidate(self):
        with self.assertRaises(TooFew):
            best([])

    def test_3_10_one_candidate(self):
        for candidate in ((0, 0, 0), (5, 0, 0), (MOST, MOST, MOST)):
            self.assertEqual(best([candidate]), candidate[0])

    def test_3_10_the_greatest_epoch_comes_first(self):
        self.assertEqual(best([(0, 4, 0), (1, 3, 9)]), 0)
        self.assertEqual(best([(1, 3, 9), (0, 4, 0)]), 0)
        self.assertEqual(best([(0, 3, 9), (1, 4, 0)]), 1)
        self.assertEqual(best([(0, MOST - 1, 9), (1, MOST, 0)]), 1)

    def test_3_10_then_the_greatest_length(self):
        self.assertEqual(best([(0, 4, 1), (1, 4, 2), (2, 4, 0)]), 1)
        self.assertEqual(best([(2, 4, 5), (0, 4, 1), (1, 4, 2)]), 2)

    def test_3_10_then_the_least_journal(self):
        for journals in itertools.permutations((1, 4, 6)):
            self.assertEqual(best([(journal, 4, 2) for journal in journals]), 1)
        self.assertEqual(best([(0, 4, 1), (3, 4, 2), (2, 4, 2), (5, 0, 9)]), 2)

    def test_3_10_in_any_order(self):
        candidates = [(0, 0, 9), (1, 2, 0), (2, 2, 5), (3, 2, 5)]
        for row in itertools.permutations(candidates):
            self.assertEqual(best(list(row)), 2)

    def test_0_4_the_list_stays_as_it_was(self):
        candidates = [(2, 0, 1), (0, 3, 3), (1, 3, 4)]
        best(candidates)
        self.assertEqual(candidates, [(2, 0, 1), (0, 3, 3), (1, 3, 4)])


if __name__ == "__main__":
    unittest.main()
