import unittest

from appendhall.errors import BadValue, BadWords
from appendhall.words import from_words, take_value, to_words
from tests.samples import (
    BEYOND, FAR, INTEGERS, MOST, NO_TEXTS, TEXTS, VALUES, Agreeable, Touchy, doubled, nested, odd_things,
)


def same_objects(one, other):
    return len(one) == len(other) and all(a is b for a, b in zip(one, other))


class ToWordsTest(unittest.TestCase):
    def test_1_5_integers_and_texts(self):
        for value in INTEGERS:
            self.assertEqual(to_words(value), ["i", value])
        for value in TEXTS:
            self.assertEqual(to_words(value), ["s", value])

    def test_1_5_tuples(self):
        self.assertEqual(to_words(()), ["t", 0])
        self.assertEqual(to_words((7, ("a",))), ["t", 2, "i", 7, "t", 1, "s", "a"])
        self.assertEqual(to_words(((), 1, "x", ((2,), "y"), 3)), [
            "t", 5, "t", 0, "i", 1, "s", "x", "t", 2, "t", 1, "i", 2, "s", "y", "i", 3,
        ])
        self.assertEqual(to_words(("i", "t")), ["t", 2, "s", "i", "s", "t"])
        self.assertEqual(to_words(nested(12)), ["t", 1] * 12 + ["i", 5])
        self.assertEqual(to_words(tuple(range(1000)))[:4], ["t", 1000, "i", 0])

    def test_1_5_the_list_is_new(self):
        for value in (5, "a", (), (1, "b")):
            first = to_words(value)
            again = to_words(value)
            self.assertIs(type(first), list)
            self.assertIsNot(first, again)
            first.append("more")
            self.assertEqual(to_words(value), again)

    def test_1_5_what_is_no_value(self):
        deep = [nested(13), nested(60), nested(12, ()), doubled(60)]
        wrong = [(odd,) for odd in odd_things()] + [(1, ("a", [3]))]
        for at, thing in enumerate(odd_things() + BEYOND + NO_TEXTS + deep + wrong):
            with self.subTest(at=at):
                with self.assertRaises(BadValue):
                    to_words(thing)


class TakeValueTest(unittest.TestCase):
    def check(self, words, at, wanted):
        kept = list(words)
        self.assertEqual(take_value(words, at), wanted)
        self.assertTrue(same_objects(words, kept))

    def check_bad(self, words, at):
        kept = list(words)
        with self.assertRaises(BadWords):
            take_value(words, at)
        self.assertTrue(same_objects(words, kept))

    def test_1_6_examples(self):
        self.check(["s", "x", "t", 0, "?"], 2, ((), 4))
        self.check(["s", "x", "t", 0, "?"], 0, ("x", 2))
        self.check_bad(["s", "x", "t", 0, "?"], 4)
        self.check_bad(["s", "x", "t", 0, "?"], 1)

    def test_1_6_the_result_is_a_pair(self):
        pair = take_value(["i", 5], 0)
        self.assertIs(type(pair), tuple)
        self.assertIs(type(take_value(["t", 1, "i", 5], 0)[0]), tuple)

    def test_1_6_values_with_anything_around_them(self):
        odd = odd_things()
        for value in VALUES:
            own = to_words(value)
            for ahead, behind in (([], []), (odd, []), ([], odd), (odd, odd), (["t", 3], ["t"]), (["s"], ["i", 5])):
                with self.subTest(value=value, ahead=len(ahead), behind=len(behind)):
                    self.check(ahead + own + behind, len(ahead), (value, len(ahead) + len(own)))

    def test_1_6_each_value_of_a_row(self):
        words = []
        for value in VALUES:
            words += to_words(value)
        at = 0
        for value in VALUES:
            found, at = take_value(words, at)
            self.assertEqual(found, value)
        self.assertEqual(at, len(words))
        self.check_bad(words, at)

    def test_1_6_the_index(self):
        words = ["i", 5, "i", 6]
        self.check(words, 0, (5, 2))
        self.check(words, 2, (6, 4))
        for at in (-1, -2, -3, -4, -5, -MOST, -FAR, 1, 3, 4, 5, 6, MOST, FAR):
            self.check_bad(words, at)
        # Each of these would be found if an index below 0 counted from the end.
        self.check_bad([5, "i"], -1)
        self.check_bad(["i", 5], -2)
        self.check_bad(["t", 0, 5, "i"], -1)
        for at in (-2, -1, 0, 1, 2):
            self.check_bad([], at)
            self.check_bad(["i"], at)

    def test_1_6_lists_that_end_too_early(self):
        for value in VALUES:
            own = to_words(value)
            if len(own) > 100:
                continue
            for length in range(len(own)):
                with self.subTest(value=value, length=length):
                    self.check_bad(own[:length], 0)
                    self.check_bad([0] + own[:length], 1)

    def test_1_6_counts_beyond_the_list(self):
        for count in (1, 2, 3, 1000, MOST):
            self.check_bad(["t", count], 0)
        for count in (3, 1000, MOST):
            self.check_bad(["t", count, "i", 1, "t", 0], 0)
        self.check(["t", 2, "i", 1, "t", 0, "i", 9], 0, ((1, ()), 6))

    def test_1_6_wrong_marks(self):
        marks = ["", "I", "T", "S", "is", "i ", " i", "x", "\x25", 0, 1, 5, "int", ("i",), nested(60, "i"), b"i"]
        for at, mark in enumerate(marks + odd_things()):
            for body in (0, 5, "x"):
                with self.subTest(at=at, body=body):
                    self.check_bad([mark, body], 0)
                    self.check_bad([mark, body, "i", 5], 0)
                    self.check_bad(["t", 2, "i", 5, mark, body], 0)
                    self.check_bad(["t", 1, "t", 1, mark, body], 0)

    def test_1_6_words_of_a_wrong_kind_behind_a_mark(self):
        wrong = {
            "i": TEXTS + NO_TEXTS + BEYOND + [(), (5,)] + odd_things(),
            "s": INTEGERS + BEYOND + NO_TEXTS + [(), ("a",), nested(60)] + odd_things(),
            "t": TEXTS + NO_TEXTS + BEYOND + [-1, -2, -MOST, (), (0,)] + odd_things(),
        }
        for mark, bodies in wrong.items():
            for at, body in enumerate(bodies):
                with self.subTest(mark=mark, at=at):
                    self.check_bad([mark, body], 0)
                    self.check_bad([mark, body, "i", 5, "i", 5], 0)
                    self.check_bad(["t", 3, "s", "a", mark, body, "i", 5], 0)

    def test_1_6_nesting(self):
        for levels in range(0, 13):
            self.check(["t", 1] * levels + ["i", 5], 0, (nested(levels), 2 * levels + 2))
        for levels in range(0, 12):
            self.check(["t", 1] * levels + ["t", 0], 0, (nested(levels, ()), 2 * levels + 2))
        for levels in (13, 14, 60, 100000):
            self.check_bad(["t", 1] * levels + ["i", 5], 0)
            self.check_bad(["t", 1] * (levels - 1) + ["t", 0], 0)
            self.check_bad(["t", 2, "i", 1] * (levels - 1) + ["t", 0], 0)
        self.check(["t", 2] + to_words(nested(11)) + to_words(nested(11)), 0, ((nested(11), nested(11)), 50))
        self.check_bad(["t", 2] + to_words(nested(11)) + to_words(nested(12)), 0)

    def test_1_7_items_of_any_kind_are_not_looked_at(self):
        words = [Touchy(), Touchy(), "t", 2, "i", 5, "s", "a", Touchy(), Agreeable()]
        self.check(words, 2, ((5, "a"), 8))
        self.check_bad([Touchy(), Touchy()], 0)
        self.check_bad([Agreeable(), 5], 0)
        self.check_bad(["i", Agreeable()], 0)
        self.check_bad(["s", Agreeable()], 0)
        self.check_bad(["t", Agreeable()], 0)
        self.check_bad([doubled(60), doubled(60)], 0)
        self.check_bad(["s", doubled(60)], 0)


class FromWordsTest(unittest.TestCase):
    def check_bad(self, words):
        kept = list(words)
        with self.assertRaises(BadWords):
            from_words(words)
        self.assertTrue(same_objects(words, kept))

    def test_1_8_examples(self):
        self.assertEqual(from_words(["t", 1, "i", 5]), (5,))
        self.check_bad(["i", 5, "i", 6])

    def test_1_8_other_lists(self):
        self.check_bad([])
        for words in (["i"], ["t"], ["s"], [0], ["x"], ["t", 1], ["t", 2, "i", 1], [5, "i"]):
            self.check_bad(words)
        for value in VALUES:
            own = to_words(value)
            for more in odd_things() + ["i", 0, "t", "", ()]:
                self.check_bad(own + [more])
                self.check_bad([more] + own)
        self.check_bad(["t", 1] * 12 + ["t", 0])
        self.check_bad(["t", 1] * 50 + ["i", 1])

    def test_1_8_the_list_stays_as_it_was(self):
        words = to_words((1, ("a", ()), "b"))
        kept = list(words)
        from_words(words)
        self.assertEqual(words, kept)

    def test_1_9_each_value_comes_back(self):
        for value in VALUES:
            with self.subTest(value=value):
                back = from_words(to_words(value))
                self.assertEqual(back, value)
                self.assertIs(type(back), type(value))

    def test_1_9_no_words_begin_with_the_words_of_another_value(self):
        values = VALUES + [("a",), ("a", "b"), (1,), (1, 1), (1, (1,)), ((1,), 1), "i", "t", "s", 2]
        for one in values:
            for other in values:
                if to_words(other)[:len(to_words(one))] == to_words(one):
                    self.assertEqual(one, other)


if __name__ == "__main__":
    unittest.main()
