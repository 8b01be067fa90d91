"""What a person has: coins and sacks, each of them free or laid down for the orders in the book."""


def needed(side, sacks, price):
    if side == "bid":
        return sacks * price
    return sacks


class Purse:
    def __init__(self, coins, sacks):
        self.free_coins = coins
        self.laid_coins = 0
        self.free_sacks = sacks
        self.laid_sacks = 0

    def free_for(self, side):
        if side == "bid":
            return self.free_coins
        return self.free_sacks

    def lay_down(self, side, sacks, price):
        amount = needed(side, sacks, price)
        if side == "bid":
            self.free_coins = self.free_coins - amount
            self.laid_coins = self.laid_coins + amount
        else:
            self.free_sacks = self.free_sacks - amount
            self.laid_sacks = self.laid_sacks + amount

    def set_free(self, side, sacks, price):
        # Freeing is laying down the other way round, so that the two can never differ in what an order needs.
        self.lay_down(side, -sacks, price)

    def told(self):
        return (self.free_coins, self.laid_coins, self.free_sacks, self.laid_sacks)


def hand_over(seller, buyer, sacks, price):
    # One step behind the other, not from values read ahead: seller and buyer may be the same purse.
    coins = sacks * price
    seller.free_sacks = seller.free_sacks - sacks
    buyer.free_sacks = buyer.free_sacks + sacks
    buyer.free_coins = buyer.free_coins - coins
    seller.free_coins = seller.free_coins + coins
