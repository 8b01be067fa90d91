"""How many sacks are traded with each order that is met, the best one first.

`met` is for orders that can all be met, `payable` for a taking at any price, which also ends where the coins do.
"""


def met(lefts, many):
    traded = []
    wanted = many
    for left in lefts:
        if wanted < 1:
            break
        part = min(left, wanted)
        traded.append(part)
        wanted = wanted - part
    return traded


def affordable(sacks, price, coins):
    # The product is asked first, so that nothing is divided by a price of nought.
    if sacks * price <= coins:
        return sacks
    return coins // price


def payable(rows, many, coins):
    bought = []
    wanted = many
    purse = coins
    for left, price in rows:
        part = affordable(min(left, wanted), price, purse)
        if part < 1:
            break
        bought.append(part)
        wanted = wanted - part
        purse = purse - part * price
    return bought
