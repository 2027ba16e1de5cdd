import unittest

from appendhall.errors import BadValue
from appendhall.values import DEPTH_MOST, NUMBER_MOST, TEXT_MOST, depth, is_integer, is_number, is_text, is_value
from tests.samples import (
    ALLOWED_CHARS, BEYOND, FAR, INTEGERS, MOST, NO_TEXTS, TEXTS, VALUES, doubled, nested, odd_things,
)


class ValuesTest(unittest.TestCase):
    def check(self, function, things, wanted):
        for at, thing in enumerate(things):
            with self.subTest(at=at):
                self.assertIs(function(thing), wanted)

    def test_1_1_the_bounds(self):
        self.assertEqual((NUMBER_MOST, TEXT_MOST, DEPTH_MOST), (10 ** 18, 200, 12))

    def test_1_1_integers(self):
        self.check(is_integer, INTEGERS, True)
        self.check(is_integer, BEYOND, False)
        self.check(is_integer, TEXTS + [(), (1,), "1"], False)

    def test_1_1_numbers(self):
        self.check(is_number, [0, 1, 12, MOST - 1, MOST], True)
        self.check(is_number, [-1, -2, -MOST, MOST + 1, FAR, -FAR, "", "1", ()], False)

    def test_1_1_texts(self):
        self.check(is_text, TEXTS, True)
        self.check(is_text, NO_TEXTS, False)
        self.check(is_text, [0, 5, (), ("a",)], False)

    def test_1_1_each_character_of_a_text(self):
        for code in range(0, 300):
            for text in (chr(code), "ab" + chr(code), chr(code) + "ab", "a" + chr(code) + "b"):
                with self.subTest(code=code, text=text):
                    self.assertIs(is_text(text), chr(code) in ALLOWED_CHARS)

    def test_1_1_each_length_of_a_text(self):
        for length in (0, 1, 2, 198, 199, 200):
            self.assertIs(is_text("y" * length), True)
        for length in (201, 202, 400, 10 ** 6):
            self.assertIs(is_text("y" * length), False)

    def test_1_2_values(self):
        self.check(is_value, VALUES, True)
        self.check(is_value, BEYOND + NO_TEXTS, False)
        self.assertIs(is_value(tuple(range(5000))), True)
        self.assertIs(is_value(("a", (), (3, "b"))), True)
        self.assertIs(is_value(("a", [3])), False)

    def test_1_2_nesting(self):
        for levels in range(0, 13):
            self.assertIs(is_value(nested(levels)), True)
            self.assertIs(is_value(nested(levels, "x")), True)
        for levels in range(0, 12):
            self.assertIs(is_value(nested(levels, ())), True)
        for levels in range(13, 61):
            self.assertIs(is_value(nested(levels)), False)
            self.assertIs(is_value(nested(levels - 1, ())), False)

    def test_1_2_nesting_behind_other_items(self):
        for levels in range(0, 60):
            for thing in ((1, "a", nested(levels)), (nested(levels), (), 2), ((), nested(levels), "z")):
                with self.subTest(levels=levels):
                    self.assertIs(is_value(thing), levels <= 11)

    def test_1_3_other_things_are_no_values(self):
        for function in (is_integer, is_number, is_text, is_value):
            self.check(function, odd_things(), False)

    def test_1_3_other_things_in_tuples_at_any_depth(self):
        for levels in list(range(1, 13)) + [13, 40, 60]:
            for at, odd in enumerate(odd_things() + BEYOND + NO_TEXTS):
                with self.subTest(levels=levels, at=at):
                    self.assertIs(is_value(nested(levels, odd)), False)
                    self.assertIs(is_value(nested(levels - 1, (1, odd))), False)
                    self.assertIs(is_value(nested(levels - 1, (odd, "a"))), False)

    def test_1_3_tuples_that_share_their_items(self):
        self.assertIs(is_value(doubled(10)), True)
        self.assertIs(is_value(doubled(60)), False)
        self.assertIs(is_value(doubled(60, width=40)), False)
        self.assertIs(is_value(doubled(12, None, width=40)), False)
        self.assertIs(is_value((1, doubled(59))), False)
        self.assertIs(is_value((doubled(5), None)), False)

    def test_1_2_depth(self):
        for value in INTEGERS + TEXTS:
            self.assertEqual(depth(value), 0)
        self.assertEqual(depth(()), 1)
        self.assertEqual(depth((1, ("a", ()))), 3)
        self.assertEqual(depth(("a", (), (3, "b"))), 2)
        self.assertEqual(depth(((((),),), 1, (2,))), 4)
        self.assertEqual(depth((1, (2,), ((((),),),))), 5)
        self.assertEqual(depth(doubled(8)), 8)
        self.assertIs(type(depth(())), int)

    def test_1_2_depth_at_the_edge(self):
        for levels in range(0, 13):
            self.assertEqual(depth(nested(levels)), levels)
        for levels in range(0, 12):
            self.assertEqual(depth(nested(levels, ())), levels + 1)

    def test_1_4_depth_of_what_is_no_value(self):
        deep = [nested(13), nested(60), nested(12, ()), doubled(60)]
        wrong = [(odd,) for odd in odd_things()] + [(1, ("a", [3])), ((), (None,))]
        for at, thing in enumerate(odd_things() + BEYOND + NO_TEXTS + deep + wrong):
            with self.subTest(at=at):
                with self.assertRaises(BadValue):
                    depth(thing)


if __name__ == "__main__":
    unittest.main()
