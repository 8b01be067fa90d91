"""The market: what each deed does to the purses and to the book.

Each deed is a method. It either raises a refusal, ahead of any change, or is done whole.
"""

from cornring.book import Book, Order
from cornring.errors import NoPrice, NoSacks, Nobody, TooFew, TooPoor
from cornring.meeting import met, payable
from cornring.purses import Purse, hand_over, needed


def check_sacks(many):
    if many < 1:
        raise NoSacks()


def check_price(price):
    if price < 1:
        raise NoPrice()


def check_enough(side, amount, free):
    if free >= amount:
        return
    if side == "bid":
        raise TooPoor()
    raise TooFew()


class Market:
    def __init__(self, people):
        self.purses = [Purse(coins, sacks) for coins, sacks in people]
        self.book = Book()
        self.numbers_used = 0

    def purse_of(self, who):
        # A number below nought would be read as a place from the list's end.
        if who < 0 or who >= len(self.purses):
            raise Nobody()
        return self.purses[who]

    def come(self, side, who, many, price):
        purse = self.purse_of(who)
        check_sacks(many)
        check_price(price)
        check_enough(side, needed(side, many, price), purse.free_for(side))
        number = self.numbers_used
        self.numbers_used = number + 1
        return (number, self.enter(Order(number, side, who, many, price)))

    def take(self, who, many):
        purse = self.purse_of(who)
        check_sacks(many)
        offers = self.book.orders("offer")
        rows = [(offer.left, offer.price) for offer in offers]
        return self.trade_all(purse, offers, payable(rows, many, purse.free_coins))

    def give(self, who, many):
        purse = self.purse_of(who)
        check_sacks(many)
        check_enough("offer", many, purse.free_sacks)
        bids = self.book.orders("bid")
        return self.trade_all(purse, bids, met([bid.left for bid in bids], many))

    def strike(self, who, number):
        self.purse_of(who)
        order = self.book.owned(who, number)
        self.withdraw(order)
        return order.left

    def change(self, who, number, many, price):
        purse = self.purse_of(who)
        order = self.book.owned(who, number)
        check_sacks(many)
        check_price(price)
        if price == order.price and many <= order.left:
            self.lessen(order, order.left - many)
            return []
        freed = needed(order.side, order.left, order.price)
        check_enough(order.side, needed(order.side, many, price), purse.free_for(order.side) + freed)
        self.withdraw(order)
        return self.enter(Order(number, order.side, who, many, price))

    def enter(self, order):
        purse = self.purse_of(order.owner)
        others = self.book.meetable(order.side, order.price)
        parts = met([other.left for other in others], order.left)
        trades = self.trade_all(purse, others, parts)
        order.left = order.left - sum(parts)
        if order.left > 0:
            purse.lay_down(order.side, order.left, order.price)
            self.book.lay(order)
        return trades

    def trade_all(self, purse, others, parts):
        trades = []
        # There may be fewer parts than orders: those behind are not met.
        for other, part in zip(others, parts):
            self.trade(purse, other, part)
            trades.append((other.number, part, other.price))
        return trades

    def trade(self, purse, other, sacks):
        self.lessen(other, sacks)
        owner = self.purse_of(other.owner)
        if other.side == "bid":
            hand_over(purse, owner, sacks, other.price)
        else:
            hand_over(owner, purse, sacks, other.price)
        if other.left < 1:
            self.book.take_out(other)

    def lessen(self, order, sacks):
        self.purse_of(order.owner).set_free(order.side, sacks, order.price)
        order.left = order.left - sacks

    def withdraw(self, order):
        self.purse_of(order.owner).set_free(order.side, order.left, order.price)
        self.book.take_out(order)
