"""Point [12]: an order changed at its place, or struck and come anew with the number that it has had."""

import unittest

from cornring.day import answers, books
from days import DayCase

PEOPLE = [(100, 10), (100, 10)]
THREE_BIDS = [("bid", 0, 4, 5), ("bid", 1, 4, 5), ("bid", 1, 4, 3)]
THREE_OFFERS = [("offer", 0, 4, 5), ("offer", 1, 4, 5), ("offer", 1, 4, 7)]


class AtItsPlace(DayCase):
    def test_to_the_same_numbers(self):
        self.check_end(PEOPLE, THREE_BIDS + [("change", 0, 0, 4, 5)], [],
                       [(0, 0, 4, 5), (1, 1, 4, 5), (2, 1, 4, 3)], [], [(80, 20, 10, 0), (68, 32, 10, 0)])
        self.check_end(PEOPLE, THREE_OFFERS + [("change", 0, 0, 4, 5)], [],
                       [], [(0, 0, 4, 5), (1, 1, 4, 5), (2, 1, 4, 7)], [(100, 0, 6, 4), (100, 0, 2, 8)])

    def test_to_fewer_sacks_at_the_price(self):
        self.check_end(PEOPLE, THREE_BIDS + [("change", 0, 0, 1, 5)], [],
                       [(0, 0, 1, 5), (1, 1, 4, 5), (2, 1, 4, 3)], [], [(95, 5, 10, 0), (68, 32, 10, 0)])
        self.check_end(PEOPLE, THREE_OFFERS + [("change", 0, 0, 1, 5)], [],
                       [], [(0, 0, 1, 5), (1, 1, 4, 5), (2, 1, 4, 7)], [(100, 0, 9, 1), (100, 0, 2, 8)])

    def test_without_anything_free(self):
        self.check_end([(20, 0)], [("bid", 0, 4, 5), ("change", 0, 0, 3, 5)], [],
                       [(0, 0, 3, 5)], [], [(5, 15, 0, 0)])
        self.check_end([(20, 0)], [("bid", 0, 4, 5), ("change", 0, 0, 4, 5)], [],
                       [(0, 0, 4, 5)], [], [(0, 20, 0, 0)])
        self.check_end([(0, 4)], [("offer", 0, 4, 5), ("change", 0, 0, 3, 5)], [],
                       [], [(0, 0, 3, 5)], [(0, 0, 1, 3)])

    def test_to_as_many_as_are_left_of_one_met_in_part(self):
        deeds = THREE_BIDS + [("give", 1, 1), ("change", 0, 0, 3, 5)]
        self.assertEqual(books(PEOPLE, deeds)[-1][0], [(0, 0, 3, 5), (1, 1, 4, 5), (2, 1, 4, 3)])
        deeds = THREE_OFFERS + [("take", 1, 1), ("change", 0, 0, 3, 5)]
        self.assertEqual(books(PEOPLE, deeds)[-1][1], [(0, 0, 3, 5), (1, 1, 4, 5), (2, 1, 4, 7)])

    def test_it_is_met_ahead_of_the_others_as_before(self):
        deeds = THREE_BIDS + [("change", 0, 0, 2, 5), ("give", 1, 3)]
        self.assertEqual(answers(PEOPLE, deeds)[-1], [(0, 2, 5), (1, 1, 5)])


class ComeAnew(DayCase):
    def test_to_more_sacks_at_the_price(self):
        self.check_end(PEOPLE, THREE_BIDS + [("change", 0, 0, 5, 5)], [],
                       [(1, 1, 4, 5), (0, 0, 5, 5), (2, 1, 4, 3)], [], [(75, 25, 10, 0), (68, 32, 10, 0)])
        self.check_end(PEOPLE, THREE_OFFERS + [("change", 0, 0, 5, 5)], [],
                       [], [(1, 1, 4, 5), (0, 0, 5, 5), (2, 1, 4, 7)], [(100, 0, 5, 5), (100, 0, 2, 8)])

    def test_to_more_sacks_than_are_left_of_one_met_in_part(self):
        deeds = THREE_BIDS + [("give", 1, 1), ("change", 0, 0, 4, 5)]
        self.check_end(PEOPLE, deeds, [], [(1, 1, 4, 5), (0, 0, 4, 5), (2, 1, 4, 3)], [],
                       [(75, 20, 11, 0), (73, 32, 9, 0)])

    def test_to_another_price(self):
        for price, place in ((6, 0), (4, 1), (3, 2), (2, 2)):
            rows = [(1, 1, 4, 5), (2, 1, 4, 3)]
            rows.insert(place, (0, 0, 4, price))
            self.check_end(PEOPLE, THREE_BIDS + [("change", 0, 0, 4, price)], [], rows, [],
                           [(100 - 4 * price, 4 * price, 10, 0), (68, 32, 10, 0)])
        for price, place in ((4, 0), (6, 1), (7, 2), (8, 2)):
            rows = [(1, 1, 4, 5), (2, 1, 4, 7)]
            rows.insert(place, (0, 0, 4, price))
            self.check_end(PEOPLE, THREE_OFFERS + [("change", 0, 0, 4, price)], [], [], rows,
                           [(100, 0, 6, 4), (100, 0, 2, 8)])

    def test_to_fewer_sacks_at_another_price(self):
        self.check_end(PEOPLE, THREE_BIDS + [("change", 1, 2, 1, 5)], [],
                       [(0, 0, 4, 5), (1, 1, 4, 5), (2, 1, 1, 5)], [], [(80, 20, 10, 0), (75, 25, 10, 0)])

    def test_to_another_price_and_back(self):
        deeds = THREE_BIDS + [("change", 0, 0, 4, 4), ("change", 0, 0, 4, 5)]
        self.assertEqual(books(PEOPLE, deeds)[-1][0], [(1, 1, 4, 5), (0, 0, 4, 5), (2, 1, 4, 3)])

    def test_a_bid_to_a_price_at_which_it_meets_the_other_side(self):
        deeds = [("bid", 0, 4, 5), ("offer", 1, 3, 7), ("offer", 1, 2, 8)]
        self.check_end(PEOPLE, deeds + [("change", 0, 0, 4, 7)], [(1, 3, 7)],
                       [(0, 0, 1, 7)], [(2, 1, 2, 8)], [(72, 7, 13, 0), (121, 0, 5, 2)])
        self.check_end(PEOPLE, deeds + [("change", 0, 0, 4, 9)], [(1, 3, 7), (2, 1, 8)],
                       [], [(2, 1, 1, 8)], [(71, 0, 14, 0), (129, 0, 5, 1)])

    def test_an_offer_to_a_price_at_which_it_meets_the_other_side(self):
        deeds = [("offer", 0, 4, 9), ("bid", 1, 3, 7), ("bid", 1, 2, 6)]
        self.check_end(PEOPLE, deeds + [("change", 0, 0, 4, 7)], [(1, 3, 7)],
                       [(2, 1, 2, 6)], [(0, 0, 1, 7)], [(121, 0, 6, 1), (67, 12, 13, 0)])
        self.check_end(PEOPLE, deeds + [("change", 0, 0, 4, 1)], [(1, 3, 7), (2, 1, 6)],
                       [(2, 1, 1, 6)], [], [(127, 0, 6, 0), (67, 6, 14, 0)])

    def test_it_meets_an_order_of_ones_own(self):
        self.check_end([(40, 4)], [("bid", 0, 4, 5), ("offer", 0, 3, 7), ("change", 0, 0, 4, 7)], [(1, 3, 7)],
                       [(0, 0, 1, 7)], [], [(33, 7, 4, 0)])
        self.check_end([(40, 4)], [("bid", 0, 4, 5), ("offer", 0, 3, 7), ("change", 0, 1, 3, 5)], [(0, 3, 5)],
                       [(0, 0, 1, 5)], [], [(35, 5, 4, 0)])

    def test_it_keeps_its_number_and_uses_none(self):
        deeds = THREE_BIDS + [("change", 0, 0, 9, 5), ("change", 0, 0, 1, 4), ("change", 0, 0, 1, 6), ("bid", 0, 1, 1)]
        self.assertEqual(answers(PEOPLE, deeds)[3:], [[], [], [], (3, [])])
        self.assertEqual(books(PEOPLE, deeds)[-2][0][0], (0, 0, 1, 6))

    def test_it_can_be_struck_and_changed_by_its_number(self):
        deeds = THREE_BIDS + [("change", 0, 0, 9, 5), ("change", 0, 0, 7, 5), ("strike", 0, 0), ("strike", 0, 0)]
        self.assertEqual(answers(PEOPLE, deeds)[3:], [[], [], 7, "no order"])

    def test_it_is_told_by_its_number_where_it_is_met(self):
        deeds = THREE_BIDS + [("change", 0, 0, 9, 5), ("give", 1, 6)]
        self.assertEqual(answers(PEOPLE, deeds)[-1], [(1, 4, 5), (0, 2, 5)])

    def test_one_that_is_met_whole_is_gone(self):
        deeds = [("bid", 0, 4, 5), ("offer", 1, 4, 7), ("change", 0, 0, 4, 7), ("strike", 0, 0), ("bid", 0, 1, 1)]
        self.assertEqual(answers(PEOPLE, deeds)[2:], [[(1, 4, 7)], "no order", (2, [])])


class EnoughFree(DayCase):
    def test_only_what_the_striking_frees_makes_a_bid_possible(self):
        self.check_end([(21, 0)], [("bid", 0, 4, 5), ("change", 0, 0, 7, 3)], [],
                       [(0, 0, 7, 3)], [], [(0, 21, 0, 0)])
        self.check_end([(20, 0)], [("bid", 0, 4, 5), ("change", 0, 0, 1, 20)], [],
                       [(0, 0, 1, 20)], [], [(0, 20, 0, 0)])
        self.check_end([(20, 0)], [("bid", 0, 4, 5), ("change", 0, 0, 4, 4)], [],
                       [(0, 0, 4, 4)], [], [(4, 16, 0, 0)])

    def test_only_what_the_striking_frees_makes_an_offer_possible(self):
        self.check_end([(0, 5)], [("offer", 0, 4, 5), ("change", 0, 0, 5, 5)], [],
                       [], [(0, 0, 5, 5)], [(0, 0, 0, 5)])
        self.check_end([(0, 4)], [("offer", 0, 4, 5), ("change", 0, 0, 4, 9)], [],
                       [], [(0, 0, 4, 9)], [(0, 0, 0, 4)])

    def test_a_bid_that_is_one_coin_short(self):
        people = [(41, 0), (40, 0)]
        deeds = [("bid", 0, 8, 5), ("bid", 1, 8, 5)]
        self.check_refused(people, deeds, ("change", 0, 0, 14, 3), "too poor")
        self.check_refused(people, deeds, ("change", 0, 0, 9, 5), "too poor")
        self.check_refused(people, deeds, ("change", 0, 0, 1, 42), "too poor")
        self.assertEqual(answers(people, deeds + [("change", 0, 0, 1, 41)])[-1], [])

    def test_an_offer_that_is_one_sack_short(self):
        people = [(5, 4), (0, 4)]
        deeds = [("offer", 0, 3, 5), ("offer", 1, 4, 5)]
        self.check_refused(people, deeds, ("change", 0, 0, 5, 5), "too few")
        self.check_refused(people, deeds, ("change", 0, 0, 5, 4), "too few")
        self.assertEqual(answers(people, deeds + [("change", 0, 0, 4, 4)])[-1], [])

    def test_a_refused_one_stays_at_its_place(self):
        deeds = [("bid", 0, 8, 5), ("bid", 1, 8, 5), ("change", 0, 0, 9, 5)]
        self.check_end([(41, 0), (40, 0)], deeds, "too poor",
                       [(0, 0, 8, 5), (1, 1, 8, 5)], [], [(1, 40, 0, 0), (0, 40, 0, 0)])
        deeds = [("offer", 0, 4, 5), ("offer", 1, 4, 5), ("change", 0, 0, 5, 5)]
        self.check_end([(0, 4), (0, 4)], deeds, "too few",
                       [], [(0, 0, 4, 5), (1, 1, 4, 5)], [(0, 0, 0, 4), (0, 0, 0, 4)])

    def test_only_what_is_left_is_freed(self):
        people = [(20, 0), (0, 3)]
        deeds = [("bid", 0, 4, 5), ("give", 1, 3)]
        self.assertEqual(answers(people, deeds + [("change", 0, 0, 2, 5)])[-1], "too poor")
        self.assertEqual(answers(people, deeds + [("change", 0, 0, 5, 1)])[-1], [])
        self.assertEqual(answers(people, deeds + [("change", 0, 0, 6, 1)])[-1], "too poor")

    def test_other_orders_of_the_owner_stay_laid_down(self):
        people = [(40, 8)]
        deeds = [("bid", 0, 4, 5), ("bid", 0, 2, 5)]
        self.assertEqual(answers(people, deeds + [("change", 0, 0, 6, 5)])[-1], [])
        self.assertEqual(answers(people, deeds + [("change", 0, 0, 1, 31)])[-1], "too poor")
        deeds = [("offer", 0, 4, 5), ("offer", 0, 2, 5)]
        self.assertEqual(answers(people, deeds + [("change", 0, 0, 6, 5)])[-1], [])
        self.assertEqual(answers(people, deeds + [("change", 0, 0, 7, 5)])[-1], "too few")


if __name__ == "__main__":
    unittest.main()
