"""The book: bids and offers apart, on each side the best one first."""

from cornring.errors import NoOrder
from cornring.ranks import spot_for


class Order:
    def __init__(self, number, side, owner, left, price):
        self.number = number
        self.side = side
        self.owner = owner
        self.left = left
        self.price = price

    def told(self):
        return (self.number, self.owner, self.left, self.price)


def other_side(side):
    if side == "bid":
        return "offer"
    return "bid"


def can_meet(side, price, other):
    if side == "bid":
        return other <= price
    return other >= price


class Book:
    def __init__(self):
        self.sides = {"bid": [], "offer": []}

    def orders(self, side):
        return list(self.sides[side])

    def meetable(self, side, price):
        others = self.sides[other_side(side)]
        return [other for other in others if can_meet(side, price, other.price)]

    def owned(self, who, number):
        for order in self.sides["bid"] + self.sides["offer"]:
            if order.number == number and order.owner == who:
                return order
        raise NoOrder()

    def lay(self, order):
        orders = self.sides[order.side]
        spot = spot_for(order.side, [other.price for other in orders], order.price)
        orders.insert(spot, order)

    def take_out(self, order):
        orders = self.sides[order.side]
        self.sides[order.side] = [other for other in orders if other.number != order.number]

    def told(self):
        bids = [order.told() for order in self.sides["bid"]]
        offers = [order.told() for order in self.sides["offer"]]
        return (bids, offers)
