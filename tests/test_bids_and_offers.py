"""Points [2] to [8]: orders that come, meet the other side, and are laid in the book."""

import unittest

from cornring.day import answers, books, holdings
from days import DayCase


class LaidInTheBook(DayCase):
    def test_an_order_that_finds_nothing_to_meet(self):
        self.check_day([(100, 5), (50, 8)], [
            (("bid", 0, 3, 10), (0, []), [(0, 0, 3, 10)], [], [(70, 30, 5, 0), (50, 0, 8, 0)]),
            (("offer", 1, 4, 11), (1, []), [(0, 0, 3, 10)], [(1, 1, 4, 11)], [(70, 30, 5, 0), (50, 0, 4, 4)]),
        ])

    def test_the_best_bid_is_the_one_with_the_greatest_price(self):
        deeds = [("bid", 0, 1, 5), ("bid", 0, 1, 7), ("bid", 0, 1, 6), ("bid", 0, 1, 4)]
        self.check_end([(100, 0)], deeds, (3, []),
                       [(1, 0, 1, 7), (2, 0, 1, 6), (0, 0, 1, 5), (3, 0, 1, 4)], [], [(78, 22, 0, 0)])

    def test_the_best_offer_is_the_one_with_the_least_price(self):
        deeds = [("offer", 0, 1, 5), ("offer", 0, 1, 7), ("offer", 0, 1, 6), ("offer", 0, 1, 4)]
        self.check_end([(0, 9)], deeds, (3, []),
                       [], [(3, 0, 1, 4), (0, 0, 1, 5), (2, 0, 1, 6), (1, 0, 1, 7)], [(0, 0, 5, 4)])

    def test_at_one_price_the_earlier_is_better(self):
        people = [(100, 9), (100, 9)]
        bids = [("bid", 1, 1, 5), ("bid", 0, 2, 5), ("bid", 1, 3, 5), ("bid", 0, 1, 6)]
        self.assertEqual(books(people, bids)[-1],
                         ([(3, 0, 1, 6), (0, 1, 1, 5), (1, 0, 2, 5), (2, 1, 3, 5)], []))
        offers = [("offer", 1, 1, 5), ("offer", 0, 2, 5), ("offer", 1, 3, 5), ("offer", 0, 1, 4)]
        self.assertEqual(books(people, offers)[-1],
                         ([], [(3, 0, 1, 4), (0, 1, 1, 5), (1, 0, 2, 5), (2, 1, 3, 5)]))

    def test_orders_that_miss_each_other_by_one_coin(self):
        people = [(100, 0), (0, 5)]
        self.check_end(people, [("offer", 1, 2, 10), ("bid", 0, 2, 9)], (1, []),
                       [(1, 0, 2, 9)], [(0, 1, 2, 10)], [(82, 18, 0, 0), (0, 0, 3, 2)])
        self.check_end(people, [("bid", 0, 2, 9), ("offer", 1, 2, 10)], (1, []),
                       [(0, 0, 2, 9)], [(1, 1, 2, 10)], [(82, 18, 0, 0), (0, 0, 3, 2)])


class Meeting(DayCase):
    def test_a_bid_that_is_met_exactly(self):
        self.check_day([(100, 0), (0, 5)], [
            (("offer", 1, 3, 10), (0, []), [], [(0, 1, 3, 10)], [(100, 0, 0, 0), (0, 0, 2, 3)]),
            (("bid", 0, 3, 10), (1, [(0, 3, 10)]), [], [], [(70, 0, 3, 0), (30, 0, 2, 0)]),
        ])

    def test_an_offer_that_is_met_exactly(self):
        self.check_day([(100, 0), (0, 5)], [
            (("bid", 0, 3, 10), (0, []), [(0, 0, 3, 10)], [], [(70, 30, 0, 0), (0, 0, 5, 0)]),
            (("offer", 1, 3, 10), (1, [(0, 3, 10)]), [], [], [(70, 0, 3, 0), (30, 0, 2, 0)]),
        ])

    def test_a_bid_that_is_met_whole_by_a_part_of_an_offer(self):
        self.check_end([(100, 0), (0, 5)], [("offer", 1, 5, 10), ("bid", 0, 2, 12)], (1, [(0, 2, 10)]),
                       [], [(0, 1, 3, 10)], [(80, 0, 2, 0), (20, 0, 0, 3)])

    def test_an_offer_that_is_met_whole_by_a_part_of_a_bid(self):
        self.check_end([(100, 0), (0, 5)], [("bid", 0, 5, 10), ("offer", 1, 2, 8)], (1, [(0, 2, 10)]),
                       [(0, 0, 3, 10)], [], [(50, 30, 2, 0), (20, 0, 3, 0)])

    def test_a_bid_that_is_met_in_part_is_laid_with_what_is_left(self):
        self.check_end([(100, 0), (0, 5)], [("offer", 1, 2, 10), ("bid", 0, 5, 12)], (1, [(0, 2, 10)]),
                       [(1, 0, 3, 12)], [], [(44, 36, 2, 0), (20, 0, 3, 0)])

    def test_an_offer_that_is_met_in_part_is_laid_with_what_is_left(self):
        self.check_end([(100, 0), (0, 5)], [("bid", 0, 2, 10), ("offer", 1, 5, 8)], (1, [(0, 2, 10)]),
                       [], [(1, 1, 3, 8)], [(80, 0, 2, 0), (20, 0, 0, 3)])

    def test_a_bid_meets_several_offers_the_best_one_first(self):
        deeds = [("offer", 1, 2, 12), ("offer", 2, 3, 10), ("offer", 1, 1, 11), ("bid", 0, 5, 12)]
        self.check_end([(100, 0), (0, 4), (0, 4)], deeds, (3, [(1, 3, 10), (2, 1, 11), (0, 1, 12)]),
                       [], [(0, 1, 1, 12)], [(47, 0, 5, 0), (23, 0, 1, 1), (30, 0, 1, 0)])

    def test_an_offer_meets_several_bids_the_best_one_first(self):
        deeds = [("bid", 1, 2, 8), ("bid", 2, 3, 10), ("bid", 1, 1, 9), ("offer", 0, 5, 8)]
        self.check_end([(0, 6), (40, 0), (40, 0)], deeds, (3, [(1, 3, 10), (2, 1, 9), (0, 1, 8)]),
                       [(0, 1, 1, 8)], [], [(47, 0, 1, 0), (15, 8, 2, 0), (10, 0, 3, 0)])

    def test_a_bid_stops_at_the_first_offer_that_is_too_dear(self):
        deeds = [("offer", 1, 1, 9), ("offer", 1, 1, 10), ("offer", 1, 1, 11), ("bid", 0, 5, 10)]
        self.check_end([(100, 0), (0, 3)], deeds, (3, [(0, 1, 9), (1, 1, 10)]),
                       [(3, 0, 3, 10)], [(2, 1, 1, 11)], [(51, 30, 2, 0), (19, 0, 0, 1)])

    def test_an_offer_stops_at_the_first_bid_that_is_too_low(self):
        deeds = [("bid", 1, 1, 9), ("bid", 1, 1, 10), ("bid", 1, 1, 11), ("offer", 0, 5, 10)]
        self.check_end([(0, 5), (30, 0)], deeds, (3, [(2, 1, 11), (1, 1, 10)]),
                       [(0, 1, 1, 9)], [(3, 0, 3, 10)], [(21, 0, 0, 3), (0, 9, 2, 0)])

    def test_several_orders_at_one_price_are_met_as_they_came(self):
        people = [(100, 6), (100, 6), (100, 6)]
        deeds = [("offer", 2, 1, 5), ("offer", 1, 2, 5), ("offer", 2, 3, 5), ("bid", 0, 4, 5)]
        self.check_end(people, deeds, (3, [(0, 1, 5), (1, 2, 5), (2, 1, 5)]),
                       [], [(2, 2, 2, 5)], [(80, 0, 10, 0), (110, 0, 4, 0), (110, 0, 2, 2)])
        deeds = [("bid", 2, 1, 5), ("bid", 1, 2, 5), ("bid", 2, 3, 5), ("offer", 0, 4, 5)]
        self.check_end(people, deeds, (3, [(0, 1, 5), (1, 2, 5), (2, 1, 5)]),
                       [(2, 2, 2, 5)], [], [(120, 0, 2, 0), (90, 0, 8, 0), (80, 10, 8, 0)])

    def test_an_order_met_in_part_keeps_its_place(self):
        deeds = [("offer", 1, 3, 5), ("offer", 2, 3, 5), ("bid", 0, 1, 5), ("bid", 0, 3, 5)]
        people = [(100, 0), (0, 3), (0, 3)]
        self.assertEqual(books(people, deeds)[2], ([], [(0, 1, 2, 5), (1, 2, 3, 5)]))
        self.check_end(people, deeds, (3, [(0, 2, 5), (1, 1, 5)]), [], [(1, 2, 2, 5)],
                       [(80, 0, 4, 0), (15, 0, 0, 0), (5, 0, 0, 2)])

    def test_the_earlier_in_the_book_is_met_first_wherever_its_number_stands(self):
        deeds = [("offer", 1, 1, 5), ("offer", 1, 1, 6), ("change", 1, 0, 1, 6), ("bid", 0, 1, 6)]
        self.assertEqual(answers([(10, 0), (0, 2)], deeds)[-1], (2, [(1, 1, 6)]))

    def test_orders_are_numbered_as_they_come_also_those_that_never_lie_in_the_book(self):
        deeds = [("bid", 0, 1, 5), ("offer", 1, 1, 5), ("take", 0, 1), ("offer", 1, 1, 9), ("bid", 0, 1, 9),
                 ("bid", 0, 1, 1)]
        self.assertEqual(answers([(50, 0), (0, 2)], deeds),
                         [(0, []), (1, [(0, 1, 5)]), [], (2, []), (3, [(2, 1, 9)]), (4, [])])


class PaidAndLaidDown(DayCase):
    def test_a_bid_met_at_a_lesser_price_pays_only_that(self):
        self.check_day([(30, 0), (0, 3)], [
            (("offer", 1, 3, 4), (0, []), [], [(0, 1, 3, 4)], [(30, 0, 0, 0), (0, 0, 0, 3)]),
            (("bid", 0, 3, 10), (1, [(0, 3, 4)]), [], [], [(18, 0, 3, 0), (12, 0, 0, 0)]),
        ])

    def test_an_offer_met_at_a_greater_price_gets_that(self):
        self.check_end([(30, 0), (0, 3)], [("bid", 0, 3, 10), ("offer", 1, 3, 4)], (1, [(0, 3, 10)]),
                       [], [], [(0, 0, 3, 0), (30, 0, 0, 0)])

    def test_coins_that_suffice_exactly_and_for_one_less(self):
        bid = ("bid", 0, 3, 10)
        self.check_end([(30, 0)], [bid], (0, []), [(0, 0, 3, 10)], [], [(0, 30, 0, 0)])
        self.check_end([(29, 0)], [bid], "too poor", [], [], [(29, 0, 0, 0)])

    def test_the_whole_price_must_be_free_though_less_would_be_paid(self):
        people = [(29, 0), (0, 3)]
        deeds = [("offer", 1, 3, 4), ("bid", 0, 3, 10)]
        self.check_end(people, deeds, "too poor", [], [(0, 1, 3, 4)], [(29, 0, 0, 0), (0, 0, 0, 3)])

    def test_coins_laid_down_are_not_free(self):
        people = [(30, 0)]
        self.assertEqual(answers(people, [("bid", 0, 2, 10), ("bid", 0, 1, 10)]), [(0, []), (1, [])])
        self.assertEqual(answers(people, [("bid", 0, 2, 10), ("bid", 0, 1, 11)]), [(0, []), "too poor"])

    def test_sacks_that_suffice_exactly_and_for_one_less(self):
        self.check_end([(0, 3)], [("offer", 0, 3, 1)], (0, []), [], [(0, 0, 3, 1)], [(0, 0, 0, 3)])
        self.check_end([(0, 3)], [("offer", 0, 4, 1)], "too few", [], [], [(0, 0, 3, 0)])

    def test_sacks_laid_down_are_not_free(self):
        people = [(0, 3)]
        self.assertEqual(answers(people, [("offer", 0, 2, 10), ("offer", 0, 1, 9)]), [(0, []), (1, [])])
        self.assertEqual(answers(people, [("offer", 0, 2, 10), ("offer", 0, 2, 9)]), [(0, []), "too few"])

    def test_an_offer_needs_no_coins_and_a_bid_no_sacks(self):
        self.assertEqual(answers([(0, 1)], [("offer", 0, 1, 10 ** 9)]), [(0, [])])
        self.assertEqual(answers([(5, 0)], [("bid", 0, 5, 1)]), [(0, [])])

    def test_what_was_got_can_be_used_at_once(self):
        deeds = [("offer", 1, 2, 5), ("bid", 0, 2, 5), ("offer", 0, 2, 7), ("bid", 1, 1, 7)]
        self.check_end([(10, 0), (0, 2)], deeds, (3, [(2, 1, 7)]), [], [(2, 0, 1, 7)], [(7, 0, 0, 1), (3, 0, 1, 0)])

    def test_an_owner_in_the_book_is_paid_while_others_of_their_orders_stay_laid_down(self):
        deeds = [("bid", 0, 2, 5), ("bid", 0, 2, 4), ("offer", 1, 1, 5)]
        self.check_end([(20, 0), (0, 1)], deeds, (2, [(0, 1, 5)]), [(0, 0, 1, 5), (1, 0, 2, 4)], [],
                       [(2, 13, 1, 0), (5, 0, 0, 0)])


class OrdersOfTheirOwn(DayCase):
    def test_a_bid_meets_an_offer_of_ones_own(self):
        self.check_day([(50, 6)], [
            (("offer", 0, 4, 5), (0, []), [], [(0, 0, 4, 5)], [(50, 0, 2, 4)]),
            (("bid", 0, 3, 8), (1, [(0, 3, 5)]), [], [(0, 0, 1, 5)], [(50, 0, 5, 1)]),
            (("bid", 0, 3, 8), (2, [(0, 1, 5)]), [(2, 0, 2, 8)], [], [(34, 16, 6, 0)]),
        ])

    def test_an_offer_meets_a_bid_of_ones_own(self):
        self.check_day([(50, 6)], [
            (("bid", 0, 4, 5), (0, []), [(0, 0, 4, 5)], [], [(30, 20, 6, 0)]),
            (("offer", 0, 3, 2), (1, [(0, 3, 5)]), [(0, 0, 1, 5)], [], [(45, 5, 6, 0)]),
            (("offer", 0, 3, 2), (2, [(0, 1, 5)]), [], [(2, 0, 2, 2)], [(50, 0, 4, 2)]),
        ])

    def test_ones_own_order_must_still_be_paid_for(self):
        self.check_end([(14, 3)], [("offer", 0, 3, 5), ("bid", 0, 3, 5)], "too poor",
                       [], [(0, 0, 3, 5)], [(14, 0, 0, 3)])
        self.check_end([(15, 3)], [("offer", 0, 3, 5), ("bid", 0, 3, 5)], (1, [(0, 3, 5)]),
                       [], [], [(15, 0, 3, 0)])

    def test_ones_own_orders_are_neither_sought_nor_passed_by(self):
        deeds = [("offer", 1, 1, 5), ("offer", 0, 1, 5), ("offer", 1, 1, 4), ("bid", 0, 3, 5)]
        self.check_end([(50, 1), (0, 2)], deeds, (3, [(2, 1, 4), (0, 1, 5), (1, 1, 5)]), [], [],
                       [(41, 0, 3, 0), (9, 0, 0, 0)])


class WhatIsTold(unittest.TestCase):
    def test_holdings_tell_everybody_each_time(self):
        people = [(1, 2), (3, 4), (5, 6)]
        self.assertEqual(holdings(people, [("give", 0, 1), ("take", 1, 1)]),
                         [[(1, 0, 2, 0), (3, 0, 4, 0), (5, 0, 6, 0)]] * 2)

    def test_what_was_told_stays_as_it_was(self):
        people = [(50, 5), (50, 5)]
        deeds = [("offer", 1, 3, 5), ("offer", 1, 1, 6), ("bid", 0, 1, 5), ("strike", 1, 0)]
        self.assertEqual(books(people, deeds), [
            ([], [(0, 1, 3, 5)]), ([], [(0, 1, 3, 5), (1, 1, 1, 6)]), ([], [(0, 1, 2, 5), (1, 1, 1, 6)]),
            ([], [(1, 1, 1, 6)]),
        ])
        self.assertEqual([rows[1] for rows in holdings(people, deeds)],
                         [(50, 0, 2, 3), (50, 0, 1, 4), (55, 0, 1, 3), (55, 0, 3, 1)])


if __name__ == "__main__":
    unittest.main()
