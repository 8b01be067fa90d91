"""Point [4]: the best order first, and at one price the one that was laid earlier."""

import itertools
import unittest

from cornring.ranks import spot_for

HUNDRED_FIGURES = 10 ** 99


class Bids(unittest.TestCase):
    def check(self, prices, price, spot):
        self.assertEqual(spot_for("bid", prices, price), spot)

    def test_empty_list(self):
        self.check([], 7, 0)

    def test_better_than_all(self):
        self.check([30, 20, 10], 40, 0)

    def test_worse_than_all(self):
        self.check([30, 20, 10], 5, 3)

    def test_between_two(self):
        self.check([30, 20, 10], 25, 1)
        self.check([30, 20, 10], 15, 2)

    def test_behind_the_one_of_its_price(self):
        self.check([30, 20, 10], 30, 1)
        self.check([30, 20, 10], 20, 2)
        self.check([30, 20, 10], 10, 3)

    def test_behind_all_of_its_price(self):
        self.check([30, 20, 20, 20, 10], 20, 4)
        self.check([20, 20, 20, 10], 20, 3)
        self.check([30, 20, 20, 20], 20, 4)
        self.check([20, 20], 20, 2)

    def test_one_less_and_one_more(self):
        self.check([30, 20, 20, 10], 19, 3)
        self.check([30, 20, 20, 10], 21, 1)

    def test_price_of_nought(self):
        self.check([], 0, 0)
        self.check([1], 0, 1)
        self.check([1, 0], 0, 2)
        self.check([1, 0], 1, 1)

    def test_great_prices(self):
        for great in (10 ** 20, HUNDRED_FIGURES, 10 ** 120):
            prices = [great + 1, great, great - 1]
            self.check(prices, great + 2, 0)
            self.check(prices, great + 1, 1)
            self.check(prices, great, 2)
            self.check(prices, great - 1, 3)
            self.check(prices, great - 2, 3)
            self.check([great], 0, 1)
            self.check([0], great, 0)


class Offers(unittest.TestCase):
    def check(self, prices, price, spot):
        self.assertEqual(spot_for("offer", prices, price), spot)

    def test_empty_list(self):
        self.check([], 7, 0)

    def test_better_than_all(self):
        self.check([10, 20, 30], 5, 0)

    def test_worse_than_all(self):
        self.check([10, 20, 30], 40, 3)

    def test_between_two(self):
        self.check([10, 20, 30], 15, 1)
        self.check([10, 20, 30], 25, 2)

    def test_behind_the_one_of_its_price(self):
        self.check([10, 20, 30], 10, 1)
        self.check([10, 20, 30], 20, 2)
        self.check([10, 20, 30], 30, 3)

    def test_behind_all_of_its_price(self):
        self.check([10, 20, 20, 20, 30], 20, 4)
        self.check([20, 20, 20, 30], 20, 3)
        self.check([10, 20, 20, 20], 20, 4)
        self.check([20, 20], 20, 2)

    def test_one_less_and_one_more(self):
        self.check([10, 20, 20, 30], 19, 1)
        self.check([10, 20, 20, 30], 21, 3)

    def test_price_of_nought(self):
        self.check([], 0, 0)
        self.check([1], 0, 0)
        self.check([0, 1], 0, 1)
        self.check([0, 1], 1, 2)

    def test_great_prices(self):
        for great in (10 ** 20, HUNDRED_FIGURES, 10 ** 120):
            prices = [great - 1, great, great + 1]
            self.check(prices, great - 2, 0)
            self.check(prices, great - 1, 1)
            self.check(prices, great, 2)
            self.check(prices, great + 1, 3)
            self.check(prices, great + 2, 3)
            self.check([great], 0, 0)
            self.check([0], great, 1)


class BothSides(unittest.TestCase):
    def test_all_short_lists(self):
        for length in range(5):
            for rising in itertools.combinations_with_replacement(range(4), length):
                for price in range(5):
                    self.check_parts(list(rising), price)

    def check_parts(self, rising, price):
        spot = spot_for("offer", rising, price)
        self.assertTrue(all(other <= price for other in rising[:spot]), (rising, price))
        self.assertTrue(all(other > price for other in rising[spot:]), (rising, price))
        falling = rising[::-1]
        spot = spot_for("bid", falling, price)
        self.assertTrue(all(other >= price for other in falling[:spot]), (falling, price))
        self.assertTrue(all(other < price for other in falling[spot:]), (falling, price))

    def test_two_hundred_orders(self):
        rising = list(range(2, 402, 2))
        self.assertEqual(spot_for("offer", rising, 399), 199)
        self.assertEqual(spot_for("offer", rising, 400), 200)
        self.assertEqual(spot_for("bid", rising[::-1], 3), 199)
        self.assertEqual(spot_for("bid", rising[::-1], 2), 200)

    def test_list_stays_as_it_was(self):
        for side, prices in (("bid", [30, 20, 20, 10]), ("offer", [10, 20, 20, 30])):
            before = list(prices)
            for price in (0, 10, 20, 25, 30, 40):
                spot_for(side, prices, price)
                self.assertEqual(prices, before)


if __name__ == "__main__":
    unittest.main()
