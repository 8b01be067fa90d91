"""Point [11]: an order goes out of the book, and what was laid down for it is free."""

import unittest

from cornring.day import answers, books
from days import DayCase

PEOPLE = [(100, 10), (100, 10)]


class Striking(DayCase):
    def test_a_bid_that_was_never_met(self):
        self.check_day(PEOPLE, [
            (("bid", 0, 3, 5), (0, []), [(0, 0, 3, 5)], [], [(85, 15, 10, 0), (100, 0, 10, 0)]),
            (("strike", 0, 0), 3, [], [], [(100, 0, 10, 0), (100, 0, 10, 0)]),
        ])

    def test_an_offer_that_was_never_met(self):
        self.check_day(PEOPLE, [
            (("offer", 1, 3, 5), (0, []), [], [(0, 1, 3, 5)], [(100, 0, 10, 0), (100, 0, 7, 3)]),
            (("strike", 1, 0), 3, [], [], [(100, 0, 10, 0), (100, 0, 10, 0)]),
        ])

    def test_a_bid_that_was_met_in_part(self):
        self.check_end(PEOPLE, [("bid", 0, 3, 5), ("give", 1, 1), ("strike", 0, 0)], 2,
                       [], [], [(95, 0, 11, 0), (105, 0, 9, 0)])

    def test_an_offer_that_was_met_in_part(self):
        self.check_end(PEOPLE, [("offer", 0, 3, 5), ("take", 1, 1), ("strike", 0, 0)], 2,
                       [], [], [(105, 0, 9, 0), (95, 0, 11, 0)])

    def test_one_that_was_met_in_part_as_it_came(self):
        self.check_end(PEOPLE, [("offer", 0, 1, 5), ("bid", 1, 4, 6), ("strike", 1, 1)], 3,
                       [], [], [(105, 0, 9, 0), (95, 0, 11, 0)])

    def test_the_other_orders_stay_as_they_were(self):
        deeds = [("bid", 0, 1, 5), ("bid", 0, 2, 5), ("bid", 1, 3, 5), ("offer", 1, 4, 9), ("offer", 0, 1, 9)]
        self.check_end(PEOPLE, deeds + [("strike", 0, 1)], 2,
                       [(0, 0, 1, 5), (2, 1, 3, 5)], [(3, 1, 4, 9), (4, 0, 1, 9)],
                       [(95, 5, 9, 1), (85, 15, 6, 4)])
        self.check_end(PEOPLE, deeds + [("strike", 1, 3)], 4,
                       [(0, 0, 1, 5), (1, 0, 2, 5), (2, 1, 3, 5)], [(4, 0, 1, 9)],
                       [(85, 15, 9, 1), (85, 15, 10, 0)])

    def test_a_struck_order_is_not_met(self):
        deeds = [("offer", 0, 2, 5), ("strike", 0, 0), ("bid", 1, 2, 5)]
        self.check_end(PEOPLE, deeds, (1, []), [(1, 1, 2, 5)], [], [(100, 0, 10, 0), (90, 10, 10, 0)])

    def test_what_is_free_again_can_be_used(self):
        deeds = [("bid", 0, 10, 10), ("strike", 0, 0), ("bid", 0, 20, 5)]
        self.assertEqual(answers(PEOPLE, deeds), [(0, []), 10, (1, [])])
        deeds = [("offer", 0, 10, 10), ("strike", 0, 0), ("offer", 0, 10, 5)]
        self.assertEqual(answers(PEOPLE, deeds), [(0, []), 10, (1, [])])

    def test_the_number_of_a_struck_order_is_not_used_again(self):
        deeds = [("bid", 0, 1, 5), ("bid", 0, 1, 5), ("strike", 0, 1), ("bid", 0, 1, 5)]
        self.assertEqual(answers(PEOPLE, deeds)[-1], (2, []))
        self.assertEqual(books(PEOPLE, deeds)[-1], ([(0, 0, 1, 5), (2, 0, 1, 5)], []))


class NothingToStrike(DayCase):
    def test_one_that_is_gone_already(self):
        self.check_refused(PEOPLE, [("bid", 0, 2, 5), ("give", 1, 2)], ("strike", 0, 0), "no order")
        self.check_refused(PEOPLE, [("offer", 0, 2, 5), ("take", 1, 2)], ("strike", 0, 0), "no order")

    def test_one_that_never_lay_in_the_book(self):
        self.check_refused(PEOPLE, [("bid", 0, 3, 5), ("offer", 1, 2, 5)], ("strike", 1, 1), "no order")

    def test_one_that_was_struck_already(self):
        self.check_refused(PEOPLE, [("bid", 0, 2, 5), ("strike", 0, 0)], ("strike", 0, 0), "no order")

    def test_one_of_somebody_else(self):
        self.check_refused(PEOPLE, [("bid", 0, 2, 5)], ("strike", 1, 0), "no order")
        self.check_refused(PEOPLE, [("bid", 0, 2, 5), ("offer", 1, 2, 6)], ("strike", 0, 1), "no order")

    def test_a_number_that_was_never_used(self):
        for number in (0, 1, 10 ** 100):
            self.check_refused(PEOPLE, [], ("strike", 0, number), "no order")
        for number in (1, 2, 10 ** 100):
            self.check_refused(PEOPLE, [("bid", 0, 2, 5)], ("strike", 0, number), "no order")

    def test_a_number_below_nought(self):
        for number in (-1, -2, -(10 ** 100)):
            self.check_refused(PEOPLE, [("bid", 0, 2, 5), ("offer", 0, 2, 9)], ("strike", 0, number), "no order")

    def test_the_number_of_a_refused_bid(self):
        self.check_refused(PEOPLE, [("bid", 0, 2, 51)], ("strike", 0, 0), "no order")


if __name__ == "__main__":
    unittest.main()
