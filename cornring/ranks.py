"""Which order is better, and so at which place of the book a new one is laid.

Of bids the greater price is better, of offers the lesser.
"""


def better(side, price, other):
    if side == "bid":
        return price > other
    return price < other


def spot_for(side, prices, price):
    for spot, other in enumerate(prices):
        # An equal price is passed by: the order that was laid earlier is the better one.
        if better(side, price, other):
            return spot
    return len(prices)
