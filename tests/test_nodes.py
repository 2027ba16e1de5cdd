import unittest

from appendhall.errors import Unknown
from appendhall.nodes import Directory, File
from tests.samples import MOST


class FileTest(unittest.TestCase):
    def test_4_7_a_new_file(self):
        notes = File()
        self.assertEqual((notes.pieces, notes.sealed, notes.length), ((), False, 0))
        self.assertIs(notes.sealed, False)

    def test_4_7_the_example(self):
        notes = File()
        self.assertEqual(notes.add_piece((3, 0, 1, "first")), 0)
        self.assertEqual(notes.add_piece((5, 1, 2, "second")), 5)
        self.assertEqual(notes.length, 11)

    def test_4_7_pieces_stand_in_the_order_in_which_they_were_added(self):
        notes = File()
        pieces = [(9, 2, 5, "abc"), (3, 0, 1, "x"), (4, 0, 2, "y" * 200), (4, 0, 2, "y" * 200), (MOST, MOST, MOST, " ")]
        offsets = [notes.add_piece(piece) for piece in pieces]
        self.assertEqual(notes.pieces, tuple(pieces))
        self.assertIs(type(notes.pieces), tuple)
        self.assertEqual(offsets, [0, 3, 4, 204, 404])
        self.assertEqual(notes.length, 405)

    def test_4_7_sealing(self):
        notes = File()
        notes.add_piece((1, 0, 1, "a"))
        self.assertIsNone(notes.seal())
        self.assertIs(notes.sealed, True)
        self.assertIsNone(notes.seal())
        self.assertEqual((notes.sealed, notes.pieces, notes.length), (True, ((1, 0, 1, "a"),), 1))

    def test_4_7_adding_does_not_ask_whether_the_file_is_sealed(self):
        notes = File()
        notes.seal()
        self.assertEqual(notes.add_piece((1, 0, 1, "ab")), 0)
        self.assertEqual(notes.add_piece((2, 0, 2, "c")), 2)
        self.assertEqual((notes.sealed, notes.length, len(notes.pieces)), (True, 3, 2))

    def test_4_7_a_sealed_copy(self):
        notes = File()
        notes.add_piece((1, 0, 1, "ab"))
        notes.add_piece((2, 0, 2, "c"))
        copy = notes.sealed_copy()
        self.assertIs(type(copy), File)
        self.assertEqual((copy.pieces, copy.sealed, copy.length), (notes.pieces, True, 3))
        self.assertIs(notes.sealed, False)

    def test_0_4_a_copy_and_its_file_have_no_effect_on_each_other(self):
        notes = File()
        notes.add_piece((1, 0, 1, "ab"))
        copy = notes.sealed_copy()
        self.assertEqual(notes.add_piece((2, 0, 2, "c")), 2)
        self.assertEqual((copy.pieces, copy.length), (((1, 0, 1, "ab"),), 2))
        self.assertEqual(copy.add_piece((3, 0, 3, "defg")), 2)
        self.assertEqual((notes.pieces, notes.length), (((1, 0, 1, "ab"), (2, 0, 2, "c")), 3))
        self.assertEqual((copy.pieces, copy.length), (((1, 0, 1, "ab"), (3, 0, 3, "defg")), 6))
        again = copy.sealed_copy()
        self.assertEqual((again.pieces, again.length, again.sealed), (copy.pieces, 6, True))

    def test_0_4_sealing_has_no_effect_on_others(self):
        notes = File()
        other = File()
        copy = notes.sealed_copy()
        notes.seal()
        notes.add_piece((1, 0, 1, "ab"))
        self.assertEqual((other.sealed, other.pieces, other.length), (False, (), 0))
        self.assertEqual((copy.sealed, copy.pieces, copy.length), (True, (), 0))


class DirectoryTest(unittest.TestCase):
    def test_4_5_a_new_directory(self):
        place = Directory()
        self.assertEqual((place.names(), place.child("a"), place.limit), ([], None, None))

    def test_4_5_entries(self):
        place = Directory()
        self.assertIsNone(place.put("a", 5))
        self.assertIsNone(place.put("b", 1))
        self.assertEqual((place.child("a"), place.child("b"), place.child("c")), (5, 1, None))

    def test_4_5_an_earlier_entry_is_replaced(self):
        place = Directory()
        place.put("a", 5)
        place.put("b", 6)
        place.put("a", 7)
        self.assertEqual((place.child("a"), place.child("b"), place.names()), (7, 6, ["a", "b"]))

    def test_4_5_the_order_of_names(self):
        place = Directory()
        names = ["b", "a", "10", "9", "-", "a.b", "a-b", "ab", "z", "...", "x" * 12]
        for number, name in enumerate(names):
            place.put(name, number)
        wanted = ["-", "...", "10", "9", "a", "a-b", "a.b", "ab", "b", "x" * 12, "z"]
        self.assertEqual(place.names(), wanted)
        place.names().clear()
        self.assertEqual(place.names(), wanted)

    def test_4_5_taking(self):
        place = Directory()
        place.put("a", 5)
        place.put("b", 6)
        self.assertEqual(place.take("a"), 5)
        self.assertEqual((place.names(), place.child("a"), place.child("b")), (["b"], None, 6))
        place.put("a", 8)
        self.assertEqual((place.take("a"), place.take("b"), place.names()), (8, 6, []))

    def test_4_5_taking_what_is_not_there(self):
        place = Directory()
        with self.assertRaises(Unknown):
            place.take("a")
        place.put("a", 5)
        for name in ("b", "", "aa", "A"):
            with self.assertRaises(Unknown):
                place.take(name)
        self.assertEqual((place.names(), place.child("a")), (["a"], 5))
        place.take("a")
        with self.assertRaises(Unknown):
            place.take("a")

    def test_4_5_an_entry_of_node_0(self):
        place = Directory()
        place.put("a", 0)
        self.assertEqual((place.child("a"), place.take("a"), place.child("a")), (0, 0, None))

    def test_4_8_the_limit(self):
        place = Directory()
        for most in (5, 0, MOST, 7):
            self.assertIsNone(place.set_limit(most))
            self.assertEqual(place.limit, most)
        place.put("a", 1)
        self.assertEqual(place.limit, 7)

    def test_0_4_two_directories_have_no_effect_on_each_other(self):
        one = Directory()
        other = Directory()
        one.put("a", 1)
        one.set_limit(3)
        self.assertEqual((other.names(), other.child("a"), other.limit), ([], None, None))


if __name__ == "__main__":
    unittest.main()
