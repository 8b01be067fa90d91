"""Points [2], [3] and [6]: what is free and what is laid down in a purse."""

import unittest

from cornring.purses import Purse, hand_over, needed


class Purses(unittest.TestCase):
    def test_in_the_beginning_all_is_free(self):
        self.assertEqual(Purse(7, 3).told(), (7, 0, 3, 0))
        self.assertEqual(Purse(0, 0).told(), (0, 0, 0, 0))

    def test_what_an_order_needs(self):
        self.assertEqual(needed("bid", 3, 5), 15)
        self.assertEqual(needed("offer", 3, 5), 3)

    def test_what_is_free_for_an_order(self):
        self.assertEqual(Purse(7, 3).free_for("bid"), 7)
        self.assertEqual(Purse(7, 3).free_for("offer"), 3)

    def test_laid_down_and_free_again(self):
        purse = Purse(20, 9)
        purse.lay_down("bid", 3, 5)
        self.assertEqual(purse.told(), (5, 15, 9, 0))
        purse.lay_down("offer", 4, 5)
        self.assertEqual(purse.told(), (5, 15, 5, 4))
        self.assertEqual(purse.free_for("bid"), 5)
        self.assertEqual(purse.free_for("offer"), 5)
        purse.set_free("bid", 2, 5)
        self.assertEqual(purse.told(), (15, 5, 5, 4))
        purse.set_free("offer", 4, 5)
        self.assertEqual(purse.told(), (15, 5, 9, 0))

    def test_handed_over(self):
        seller, buyer = Purse(1, 9), Purse(20, 2)
        hand_over(seller, buyer, 3, 5)
        self.assertEqual(seller.told(), (16, 0, 6, 0))
        self.assertEqual(buyer.told(), (5, 0, 5, 0))

    def test_handed_over_to_oneself(self):
        purse = Purse(20, 9)
        hand_over(purse, purse, 3, 5)
        self.assertEqual(purse.told(), (20, 0, 9, 0))


if __name__ == "__main__":
    unittest.main()
