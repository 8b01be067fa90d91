"""Point [14]: a market refuses by an error class of its own for each reason."""

import unittest

from cornring.errors import NoOrder, NoPrice, NoSacks, Nobody, TooFew, TooPoor
from cornring.market import Market


class Refusing(unittest.TestCase):
    def setUp(self):
        self.market = Market([(10, 3), (10, 3)])
        self.market.come("bid", 0, 1, 4)
        self.market.come("offer", 1, 2, 5)

    def test_each_reason_has_its_class(self):
        for kind, deed in (
            (Nobody, lambda: self.market.take(2, 1)),
            (NoOrder, lambda: self.market.strike(0, 1)),
            (NoSacks, lambda: self.market.give(0, 0)),
            (NoPrice, lambda: self.market.come("offer", 0, 1, 0)),
            (TooPoor, lambda: self.market.come("bid", 0, 7, 1)),
            (TooPoor, lambda: self.market.change(0, 0, 11, 1)),
            (TooFew, lambda: self.market.give(1, 2)),
            (TooFew, lambda: self.market.change(1, 1, 4, 5)),
        ):
            with self.assertRaises(kind):
                deed()
        self.assertEqual(self.market.book.told(), ([(0, 0, 1, 4)], [(1, 1, 2, 5)]))
        self.assertEqual([purse.told() for purse in self.market.purses], [(6, 4, 3, 0), (10, 0, 1, 2)])
        self.assertEqual(self.market.numbers_used, 2)


if __name__ == "__main__":
    unittest.main()
