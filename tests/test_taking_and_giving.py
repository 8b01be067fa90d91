"""Points [9] and [10]: taking and giving at any price."""

import unittest

from cornring.day import answers
from days import DayCase

OFFERS = [("offer", 1, 3, 5), ("offer", 2, 2, 8), ("offer", 1, 2, 5)]
BIDS = [("bid", 1, 3, 5), ("bid", 2, 2, 8), ("bid", 1, 2, 5)]


class Taking(DayCase):
    def test_within_the_best_offer(self):
        self.check_end([(100, 0), (0, 5), (0, 2)], OFFERS + [("take", 0, 2)], [(0, 2, 5)],
                       [], [(0, 1, 1, 5), (2, 1, 2, 5), (1, 2, 2, 8)], [(90, 0, 2, 0), (10, 0, 0, 3), (0, 0, 0, 2)])

    def test_exactly_an_offer(self):
        self.check_end([(100, 0), (0, 5), (0, 2)], OFFERS + [("take", 0, 3)], [(0, 3, 5)],
                       [], [(2, 1, 2, 5), (1, 2, 2, 8)], [(85, 0, 3, 0), (15, 0, 0, 2), (0, 0, 0, 2)])

    def test_several_offers_at_their_prices(self):
        self.check_end([(100, 0), (0, 5), (0, 2)], OFFERS + [("take", 0, 6)], [(0, 3, 5), (2, 2, 5), (1, 1, 8)],
                       [], [(1, 2, 1, 8)], [(67, 0, 6, 0), (25, 0, 0, 0), (8, 0, 0, 1)])

    def test_it_ends_where_nothing_is_left_to_take(self):
        for many in (7, 8, 10 ** 100):
            self.check_end([(100, 0), (0, 5), (0, 2)], OFFERS + [("take", 0, many)],
                           [(0, 3, 5), (2, 2, 5), (1, 2, 8)],
                           [], [], [(59, 0, 7, 0), (25, 0, 0, 0), (16, 0, 0, 0)])

    def test_it_ends_where_the_coins_do(self):
        self.check_end([(33, 0), (0, 5), (0, 2)], OFFERS + [("take", 0, 7)], [(0, 3, 5), (2, 2, 5), (1, 1, 8)],
                       [], [(1, 2, 1, 8)], [(0, 0, 6, 0), (25, 0, 0, 0), (8, 0, 0, 1)])
        self.check_end([(32, 0), (0, 5), (0, 2)], OFFERS + [("take", 0, 7)], [(0, 3, 5), (2, 2, 5)],
                       [], [(1, 2, 2, 8)], [(7, 0, 5, 0), (25, 0, 0, 0), (0, 0, 0, 2)])

    def test_it_ends_within_an_offer_where_the_coins_do(self):
        self.check_end([(14, 0), (0, 5), (0, 2)], OFFERS + [("take", 0, 7)], [(0, 2, 5)],
                       [], [(0, 1, 1, 5), (2, 1, 2, 5), (1, 2, 2, 8)], [(4, 0, 2, 0), (10, 0, 0, 3), (0, 0, 0, 2)])

    def test_coins_about_the_least_price(self):
        people = [(5, 0), (0, 5), (0, 2)]
        self.assertEqual(answers(people, OFFERS + [("take", 0, 1)])[-1], [(0, 1, 5)])
        people = [(4, 0), (0, 5), (0, 2)]
        self.check_end(people, OFFERS + [("take", 0, 1)], [], [], [(0, 1, 3, 5), (2, 1, 2, 5), (1, 2, 2, 8)],
                       [(4, 0, 0, 0), (0, 0, 0, 5), (0, 0, 0, 2)])

    def test_without_coins_it_is_not_refused(self):
        self.assertEqual(answers([(0, 0), (0, 5), (0, 2)], OFFERS + [("take", 0, 1)])[-1], [])

    def test_no_offer_at_all(self):
        self.check_end([(100, 0)], [("take", 0, 3)], [], [], [], [(100, 0, 0, 0)])

    def test_bids_are_not_taken(self):
        self.check_end([(100, 5), (50, 0)], [("bid", 1, 3, 5), ("take", 0, 3)], [],
                       [(0, 1, 3, 5)], [], [(100, 0, 5, 0), (35, 15, 0, 0)])

    def test_what_is_not_got_is_forgotten(self):
        people = [(100, 0), (0, 5)]
        deeds = [("offer", 1, 2, 5), ("take", 0, 4), ("offer", 1, 3, 5)]
        self.check_end(people, deeds, (1, []), [], [(1, 1, 3, 5)], [(90, 0, 2, 0), (10, 0, 0, 3)])

    def test_it_uses_no_number(self):
        deeds = [("offer", 1, 2, 5), ("take", 0, 1), ("take", 0, 9), ("bid", 0, 1, 1)]
        self.assertEqual(answers([(100, 0), (0, 5)], deeds), [(0, []), [(0, 1, 5)], [(0, 1, 5)], (1, [])])

    def test_coins_laid_down_do_not_count(self):
        deeds = [("bid", 0, 4, 2), ("offer", 1, 5, 5), ("take", 0, 5)]
        self.check_end([(19, 0), (0, 5)], deeds, [(1, 2, 5)],
                       [(0, 0, 4, 2)], [(1, 1, 3, 5)], [(1, 8, 2, 0), (10, 0, 0, 3)])

    def test_an_order_of_ones_own(self):
        self.check_end([(100, 5)], [("offer", 0, 4, 5), ("take", 0, 3)], [(0, 3, 5)],
                       [], [(0, 0, 1, 5)], [(100, 0, 4, 1)])

    def test_coins_paid_to_oneself_count_as_paid(self):
        people = [(10, 3), (0, 2)]
        deeds = [("offer", 0, 3, 5), ("offer", 1, 2, 6), ("take", 0, 5)]
        self.check_end(people, deeds, [(0, 2, 5)], [], [(0, 0, 1, 5), (1, 1, 2, 6)], [(10, 0, 2, 1), (0, 0, 0, 2)])
        people = [(21, 3), (0, 2)]
        self.check_end(people, deeds, [(0, 3, 5), (1, 1, 6)], [], [(1, 1, 1, 6)], [(15, 0, 4, 0), (6, 0, 0, 1)])
        people = [(20, 3), (0, 2)]
        self.check_end(people, deeds, [(0, 3, 5)], [], [(1, 1, 2, 6)], [(20, 0, 3, 0), (0, 0, 0, 2)])

    def test_without_coins_not_even_ones_own_is_taken(self):
        self.assertEqual(answers([(4, 3)], [("offer", 0, 3, 5), ("take", 0, 1)])[-1], [])


class Giving(DayCase):
    people = [(0, 7), (25, 0), (16, 0)]

    def test_within_the_best_bid(self):
        self.check_end(self.people, BIDS + [("give", 0, 1)], [(1, 1, 8)],
                       [(1, 2, 1, 8), (0, 1, 3, 5), (2, 1, 2, 5)], [], [(8, 0, 6, 0), (0, 25, 0, 0), (0, 8, 1, 0)])

    def test_exactly_a_bid(self):
        self.check_end(self.people, BIDS + [("give", 0, 2)], [(1, 2, 8)],
                       [(0, 1, 3, 5), (2, 1, 2, 5)], [], [(16, 0, 5, 0), (0, 25, 0, 0), (0, 0, 2, 0)])

    def test_several_bids_at_their_prices(self):
        self.check_end(self.people, BIDS + [("give", 0, 6)], [(1, 2, 8), (0, 3, 5), (2, 1, 5)],
                       [(2, 1, 1, 5)], [], [(36, 0, 1, 0), (0, 5, 4, 0), (0, 0, 2, 0)])

    def test_exactly_all_the_free_sacks(self):
        self.check_end(self.people, BIDS + [("give", 0, 7)], [(1, 2, 8), (0, 3, 5), (2, 2, 5)],
                       [], [], [(41, 0, 0, 0), (0, 0, 5, 0), (0, 0, 2, 0)])

    def test_one_more_than_the_free_sacks(self):
        self.check_end(self.people, BIDS + [("give", 0, 8)], "too few",
                       [(1, 2, 2, 8), (0, 1, 3, 5), (2, 1, 2, 5)], [],
                       [(0, 0, 7, 0), (0, 25, 0, 0), (0, 16, 0, 0)])

    def test_one_more_than_the_free_sacks_where_fewer_are_wanted(self):
        deeds = [("bid", 1, 1, 5), ("give", 0, 3)]
        self.check_end([(0, 2), (5, 0)], deeds, "too few", [(0, 1, 1, 5)], [], [(0, 0, 2, 0), (0, 5, 0, 0)])

    def test_what_is_not_given_stays_theirs(self):
        deeds = [("bid", 1, 1, 5), ("give", 0, 2), ("bid", 1, 1, 5)]
        self.check_end([(0, 2), (10, 0)], deeds, (1, []), [(1, 1, 1, 5)], [], [(5, 0, 1, 0), (0, 5, 1, 0)])

    def test_no_bid_at_all(self):
        self.check_end([(0, 2)], [("give", 0, 2)], [], [], [], [(0, 0, 2, 0)])
        self.check_end([(0, 2)], [("give", 0, 3)], "too few", [], [], [(0, 0, 2, 0)])

    def test_offers_are_not_given_to(self):
        self.check_end([(9, 2), (9, 2)], [("offer", 1, 2, 5), ("give", 0, 2)], [],
                       [], [(0, 1, 2, 5)], [(9, 0, 2, 0), (9, 0, 0, 2)])

    def test_sacks_laid_down_do_not_count(self):
        deeds = [("offer", 0, 4, 9), ("bid", 1, 5, 5)]
        people = [(0, 6), (25, 0)]
        self.assertEqual(answers(people, deeds + [("give", 0, 3)])[-1], "too few")
        self.check_end(people, deeds + [("give", 0, 2)], [(1, 2, 5)],
                       [(1, 1, 3, 5)], [(0, 0, 4, 9)], [(10, 0, 0, 4), (0, 15, 2, 0)])

    def test_it_uses_no_number(self):
        deeds = [("bid", 1, 2, 5), ("give", 0, 1), ("give", 0, 2), ("bid", 1, 1, 5)]
        self.assertEqual(answers([(0, 3), (20, 0)], deeds), [(0, []), [(0, 1, 5)], [(0, 1, 5)], (1, [])])

    def test_an_order_of_ones_own(self):
        self.check_end([(30, 4)], [("bid", 0, 4, 5), ("give", 0, 3)], [(0, 3, 5)],
                       [(0, 0, 1, 5)], [], [(25, 5, 4, 0)])

    def test_sacks_given_to_oneself_are_given(self):
        deeds = [("bid", 0, 2, 6), ("bid", 1, 5, 5), ("give", 0, 3)]
        self.check_end([(30, 3), (25, 0)], deeds, [(0, 2, 6), (1, 1, 5)],
                       [(1, 1, 4, 5)], [], [(35, 0, 2, 0), (0, 20, 1, 0)])


if __name__ == "__main__":
    unittest.main()
