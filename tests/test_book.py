import unittest

from appendhall.book import Book


class BookTest(unittest.TestCase):
    EVENTS = [("asked", 0, 1, ("create", "/a")), ("looked", 1, 1, ("find", "/")), ("answered", 0, 1, ("made", 1)),
              ("seen", 1, 1, 1, ("node", 0, 0, 0))]

    def test_9_6_a_new_book(self):
        self.assertEqual((len(Book()), list(Book()), Book().events()), (0, [], []))

    def test_9_6_events_in_order(self):
        book = Book()
        for count, event in enumerate(self.EVENTS + self.EVENTS[:1], 1):
            self.assertIsNone(book.note(event))
            self.assertEqual(len(book), count)
        self.assertEqual(book.events(), self.EVENTS + self.EVENTS[:1])
        self.assertEqual(list(book), book.events())

    def test_0_4_a_returned_list_is_new(self):
        book = Book()
        book.note(self.EVENTS[0])
        book.events().append(self.EVENTS[1])
        book.events().clear()
        self.assertEqual(book.events(), self.EVENTS[:1])

    def test_0_4_two_books_have_no_effect_on_each_other(self):
        one, other = Book(), Book()
        one.note(self.EVENTS[0])
        self.assertEqual(other.events(), [])


if __name__ == "__main__":
    unittest.main()
