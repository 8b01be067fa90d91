"""Points [3] to [5]: the two sides of the book, and which of the other side an order can meet."""

import unittest

from cornring.book import Book, Order
from cornring.errors import NoOrder


def book_of(*rows):
    book = Book()
    for number, side, owner, left, price in rows:
        book.lay(Order(number, side, owner, left, price))
    return book


BIDS = [(0, "bid", 0, 1, 5), (1, "bid", 1, 2, 7), (2, "bid", 0, 3, 5)]
OFFERS = [(3, "offer", 0, 1, 9), (4, "offer", 1, 2, 8), (5, "offer", 0, 3, 9)]


class TheBook(unittest.TestCase):
    def test_an_empty_one(self):
        self.assertEqual(Book().told(), ([], []))
        self.assertEqual(Book().orders("bid"), [])
        self.assertEqual(Book().meetable("bid", 5), [])

    def test_the_best_first(self):
        self.assertEqual(book_of(*BIDS, *OFFERS).told(), (
            [(1, 1, 2, 7), (0, 0, 1, 5), (2, 0, 3, 5)], [(4, 1, 2, 8), (3, 0, 1, 9), (5, 0, 3, 9)],
        ))

    def test_what_can_be_met(self):
        book = book_of(*BIDS, *OFFERS)
        for side, price, numbers in (
            ("bid", 7, []), ("bid", 8, [4]), ("bid", 9, [4, 3, 5]), ("bid", 10 ** 100, [4, 3, 5]),
            ("offer", 8, []), ("offer", 7, [1]), ("offer", 6, [1]), ("offer", 5, [1, 0, 2]), ("offer", 1, [1, 0, 2]),
        ):
            self.assertEqual([order.number for order in book.meetable(side, price)], numbers)

    def test_an_order_of_somebody(self):
        book = book_of(*BIDS, *OFFERS)
        self.assertEqual(book.owned(0, 2).told(), (2, 0, 3, 5))
        self.assertEqual(book.owned(1, 4).told(), (4, 1, 2, 8))
        for who, number in ((1, 2), (0, 4), (0, 6), (0, -1)):
            with self.assertRaises(NoOrder):
                book.owned(who, number)

    def test_taken_out(self):
        book = book_of(*BIDS, *OFFERS)
        book.take_out(book.owned(0, 0))
        book.take_out(book.owned(1, 4))
        self.assertEqual(book.told(), ([(1, 1, 2, 7), (2, 0, 3, 5)], [(3, 0, 1, 9), (5, 0, 3, 9)]))

    def test_what_was_asked_for_is_not_the_book_itself(self):
        book = book_of(*BIDS)
        book.orders("bid").clear()
        book.meetable("offer", 1).clear()
        book.told()[0].clear()
        self.assertEqual(len(book.orders("bid")), 3)


if __name__ == "__main__":
    unittest.main()
