"""Point [9]: from each offer the least of what is left, what is wanted and what the coins suffice for."""

import itertools
import unittest

from cornring.meeting import payable

EIGHTY_FIGURES = 10 ** 79
ROWS = [(5, 10), (3, 20), (4, 30)]
ALL_SACKS = 12
ALL_COINS = 230


def sack_by_sack(rows, many, coins):
    """The same, bought a sack at a time: slow, but without a least of three numbers."""
    bought = []
    for left, price in rows:
        part = 0
        while part < left and many > 0 and coins >= price:
            part += 1
            many -= 1
            coins -= price
        if part == 0:
            return bought
        bought.append(part)
    return bought


class Payable(unittest.TestCase):
    def check(self, rows, many, coins, sacks):
        self.assertEqual(payable(rows, many, coins), sacks)

    def test_no_rows(self):
        self.check([], 5, 100, [])
        self.check([], 0, 0, [])

    def test_nothing_wanted(self):
        self.check(ROWS, 0, 1000, [])

    def test_no_coins(self):
        self.check(ROWS, 5, 0, [])

    def test_coins_about_the_first_price(self):
        self.check(ROWS, 5, 9, [])
        self.check(ROWS, 5, 10, [1])
        self.check(ROWS, 5, 11, [1])

    def test_coins_for_all(self):
        self.check(ROWS, ALL_SACKS, ALL_COINS, [5, 3, 4])
        self.check(ROWS, ALL_SACKS, ALL_COINS + 1, [5, 3, 4])
        self.check(ROWS, ALL_SACKS, ALL_COINS - 1, [5, 3, 3])

    def test_more_wanted_than_there_is(self):
        self.check(ROWS, ALL_SACKS + 1, ALL_COINS, [5, 3, 4])
        self.check(ROWS, 10 ** 100, 10 ** 100, [5, 3, 4])

    def test_coins_for_a_part_of_an_offer(self):
        self.check(ROWS, ALL_SACKS, 49, [4])
        self.check(ROWS, ALL_SACKS, 90, [5, 2])
        self.check(ROWS, ALL_SACKS, 109, [5, 2])

    def test_coins_for_exactly_one_offer(self):
        self.check(ROWS, ALL_SACKS, 50, [5])
        self.check(ROWS, ALL_SACKS, 69, [5])
        self.check(ROWS, ALL_SACKS, 70, [5, 1])

    def test_coins_paid_so_far_are_gone(self):
        self.check([(1, 10), (1, 10), (1, 10)], 3, 29, [1, 1])
        self.check([(2, 10), (2, 15)], 4, 45, [2, 1])

    def test_the_same_price_as_the_one_ahead(self):
        self.check([(2, 10), (3, 10)], 5, 50, [2, 3])
        self.check([(2, 10), (3, 10)], 5, 49, [2, 2])
        self.check([(2, 10), (3, 10)], 5, 20, [2])
        self.check([(2, 10), (3, 10)], 5, 30, [2, 1])
        self.check([(2, 10), (3, 10)], 5, 19, [1])

    def test_wanted_ends_within_an_offer(self):
        self.check(ROWS, 4, 1000, [4])
        self.check(ROWS, 6, 1000, [5, 1])
        self.check(ROWS, 11, 1000, [5, 3, 3])

    def test_wanted_ends_at_the_end_of_an_offer(self):
        self.check(ROWS, 5, 1000, [5])
        self.check(ROWS, 8, 1000, [5, 3])
        self.check(ROWS, 12, 1000, [5, 3, 4])

    def test_wanted_and_coins_end_together(self):
        self.check(ROWS, 5, 50, [5])
        self.check(ROWS, 7, 90, [5, 2])
        self.check(ROWS, 7, 89, [5, 1])

    def test_it_ends_at_the_first_nought(self):
        self.check([(2, 10), (1, 30), (1, 25)], 4, 45, [2])

    def test_any_coins_suffice_for_a_price_of_nought(self):
        self.check([(2, 0), (3, 1)], 4, 0, [2])
        self.check([(2, 0), (3, 1)], 4, 1, [2, 1])

    def test_great_numbers(self):
        for great in (EIGHTY_FIGURES, 10 ** 100):
            rows = [(great, great), (great, great + 1)]
            first = great * great
            everything = first + great * (great + 1)
            self.check(rows, 2 * great, everything, [great, great])
            self.check(rows, 2 * great, everything - 1, [great, great - 1])
            self.check(rows, 2 * great, first, [great])
            self.check(rows, 2 * great, first - 1, [great - 1])
            self.check(rows, 2 * great, first + great, [great])
            self.check(rows, 2 * great, first + great + 1, [great, 1])
            self.check(rows, great + 1, everything, [great, 1])
            self.check(rows, 2 * great, great - 1, [])
            self.check(rows, 2 * great, great, [1])

    def test_all_short_lists(self):
        for length in range(4):
            for prices in itertools.combinations_with_replacement((1, 2, 3), length):
                for lefts in itertools.product((1, 2), repeat=length):
                    self.check_sack_by_sack(list(zip(lefts, prices)))

    def check_sack_by_sack(self, rows):
        for many in range(8):
            for coins in range(20):
                self.check(rows, many, coins, sack_by_sack(rows, many, coins))

    def test_list_stays_as_it_was(self):
        for many, coins in ((0, 0), (5, 9), (6, 1000), (12, 229), (12, 230), (13, 1000)):
            rows = list(ROWS)
            payable(rows, many, coins)
            self.assertEqual(rows, [(5, 10), (3, 20), (4, 30)])

    def test_asked_again_it_answers_the_same(self):
        payable(ROWS, 6, 1000).append(99)
        self.check(ROWS, 6, 1000, [5, 1])


if __name__ == "__main__":
    unittest.main()
