"""What the tests of days share: a check of days told by hand, what must hold of every day, and a slow market.

The slow market trades a sack at a time, looks for the best order anew at each of them, and keeps no account of what
is laid down: it reckons that from the orders. So it has little in common with the program that it is compared with.
"""

import random
import unittest

from cornring.day import answers, books, holdings


class SlowOrder:
    def __init__(self, number, side, owner, left, price, turn):
        self.number = number
        self.side = side
        self.owner = owner
        self.left = left
        self.price = price
        self.turn = turn

    def rank(self):
        return (-self.price if self.side == "bid" else self.price, self.turn)

    def row(self):
        return (self.number, self.owner, self.left, self.price)


class SlowMarket:
    def __init__(self, people):
        self.coins = [coins for coins, sacks in people]
        self.sacks = [sacks for coins, sacks in people]
        self.orders = []
        self.numbers = 0
        self.turns = 0

    def side(self, side):
        return sorted((order for order in self.orders if order.side == side), key=SlowOrder.rank)

    def laid_coins(self, who):
        return sum(order.left * order.price for order in self.orders if order.owner == who and order.side == "bid")

    def laid_sacks(self, who):
        return sum(order.left for order in self.orders if order.owner == who and order.side == "offer")

    def free_coins(self, who):
        return self.coins[who] - self.laid_coins(who)

    def free_sacks(self, who):
        return self.sacks[who] - self.laid_sacks(who)

    def book(self):
        return ([order.row() for order in self.side("bid")], [order.row() for order in self.side("offer")])

    def holdings(self):
        return [
            (self.free_coins(who), self.laid_coins(who), self.free_sacks(who), self.laid_sacks(who))
            for who in range(len(self.coins))
        ]

    def trade_a_sack(self, who, order, trades):
        buyer, seller = (who, order.owner) if order.side == "offer" else (order.owner, who)
        self.coins[buyer] -= order.price
        self.coins[seller] += order.price
        self.sacks[seller] -= 1
        self.sacks[buyer] += 1
        order.left -= 1
        if order.left == 0:
            self.orders = [other for other in self.orders if other.number != order.number]
        if trades and trades[-1][0] == order.number:
            trades[-1] = (order.number, trades[-1][1] + 1, order.price)
        else:
            trades.append((order.number, 1, order.price))

    def come(self, number, side, who, many, price):
        trades = []
        while many > 0:
            others = self.side("offer" if side == "bid" else "bid")
            if not others:
                break
            if (side == "bid" and others[0].price > price) or (side == "offer" and others[0].price < price):
                break
            self.trade_a_sack(who, others[0], trades)
            many -= 1
        if many > 0:
            self.orders.append(SlowOrder(number, side, who, many, price, self.turns))
            self.turns += 1
        return trades

    def take(self, who, many):
        trades = []
        coins = self.free_coins(who)
        while many > 0 and self.side("offer") and self.side("offer")[0].price <= coins:
            coins -= self.side("offer")[0].price
            self.trade_a_sack(who, self.side("offer")[0], trades)
            many -= 1
        return trades

    def give(self, who, many):
        trades = []
        while many > 0 and self.side("bid"):
            self.trade_a_sack(who, self.side("bid")[0], trades)
            many -= 1
        return trades

    def reason(self, deed):
        kind, who = deed[:2]
        many = price = 1
        order = None
        side = kind
        if who not in range(len(self.coins)):
            return "nobody"
        if kind in ("strike", "change"):
            found = [order for order in self.orders if (order.number, order.owner) == (deed[2], who)]
            if not found:
                return "no order"
            order = found[0]
            side = order.side
        if kind != "strike":
            many = deed[3 if kind == "change" else 2]
        if kind in ("bid", "offer", "change"):
            price = deed[-1]
        if many < 1:
            return "no sacks"
        if price < 1:
            return "no price"
        if kind in ("bid", "offer", "give", "change"):
            return self.want(who, side, many, price, order)
        return None

    def want(self, who, side, many, price, order):
        if side == "bid":
            back = order.left * order.price if order else 0
            return "too poor" if self.free_coins(who) + back < many * price else None
        back = order.left if order else 0
        return "too few" if self.free_sacks(who) + back < many else None

    def do(self, deed):
        reason = self.reason(deed)
        if reason:
            return reason
        kind, who, *rest = deed
        if kind in ("bid", "offer"):
            self.numbers += 1
            return (self.numbers - 1, self.come(self.numbers - 1, kind, who, *rest))
        if kind == "take":
            return self.take(who, *rest)
        if kind == "give":
            return self.give(who, *rest)
        order = [order for order in self.orders if order.number == rest[0]][0]
        if kind == "change" and rest[2] == order.price and rest[1] <= order.left:
            order.left = rest[1]
            return []
        self.orders.remove(order)
        if kind == "strike":
            return order.left
        return self.come(order.number, order.side, who, rest[1], rest[2])


def slow_day(people, deeds):
    market = SlowMarket(people)
    told = ([], [], [])
    for deed in deeds:
        told[0].append(market.do(deed))
        told[1].append(market.book())
        told[2].append(market.holdings())
    return told


def some_deed(dice, people_count, orders, most_sacks, most_price):
    """A deed that is now and then out of bounds, and mostly is not."""
    who = dice.randrange(people_count) if dice.random() < 0.97 else dice.choice((-1, people_count))
    number = dice.randrange(-1, orders + 1)
    many = dice.randint(1, most_sacks) if dice.random() < 0.97 else dice.choice((-1, 0))
    price = dice.randint(1, most_price) if dice.random() < 0.97 else dice.choice((-1, 0))
    kind = dice.choice(("bid", "bid", "offer", "offer", "take", "give", "strike", "change", "change"))
    if kind in ("bid", "offer"):
        return (kind, who, many, price)
    if kind in ("take", "give"):
        return (kind, who, many)
    if kind == "strike":
        return (kind, who, number)
    return (kind, who, number, many, price)


def some_day(seed, people_count, deed_count, most_sacks=6, most_price=5):
    """People and deeds, the same for the same seed; orders are often struck and changed by their owners."""
    dice = random.Random(seed)
    people = [(dice.randint(0, 60), dice.randint(0, 20)) for _ in range(people_count)]
    market = SlowMarket(people)
    deeds = []
    for _ in range(deed_count):
        deed = some_deed(dice, people_count, market.numbers, most_sacks, most_price)
        if deed[0] in ("strike", "change") and market.orders and dice.random() < 0.8:
            order = dice.choice(market.orders)
            price = order.price if dice.random() < 0.5 else deed[-1]
            deed = (deed[0], order.owner, order.number) + (() if deed[0] == "strike" else (deed[3], price))
        market.do(deed)
        deeds.append(deed)
    return people, deeds


class DayCase(unittest.TestCase):
    def check_day(self, people, rows):
        """Each row: the deed, its answer, and the bids, the offers and the holdings behind it."""
        deeds = [row[0] for row in rows]
        self.assertEqual(answers(people, deeds), [row[1] for row in rows])
        self.assertEqual(books(people, deeds), [(row[2], row[3]) for row in rows])
        self.assertEqual(holdings(people, deeds), [row[4] for row in rows])
        self.check_what_always_holds(people, deeds)

    def check_end(self, people, deeds, answer, bids, offers, held):
        """The same for the last deed alone."""
        self.assertEqual(answers(people, deeds)[-1], answer)
        self.assertEqual(books(people, deeds)[-1], (bids, offers))
        self.assertEqual(holdings(people, deeds)[-1], held)
        self.check_what_always_holds(people, deeds)

    def check_refused(self, people, deeds, refused, answer):
        """The deed is refused, and the book, the holdings and the next number are as without it.

        Person 0 must have a coin free, for the order that shows the next number.
        """
        probe = ("bid", 0, 1, 1)
        told = answers(people, deeds + [refused, probe])
        self.assertEqual(told[-2], answer)
        self.assertEqual(told[:-2] + told[-1:], answers(people, deeds + [probe]))
        self.assertEqual(told[-1][0], sum(isinstance(row, tuple) for row in told[:-2]))
        self.assertEqual(
            books(people, deeds + [refused, probe])[len(deeds):],
            [self.book_behind(people, deeds), books(people, deeds + [probe])[-1]],
        )
        self.assertEqual(
            holdings(people, deeds + [refused, probe])[len(deeds):],
            [self.held_behind(people, deeds), holdings(people, deeds + [probe])[-1]],
        )

    def book_behind(self, people, deeds):
        return books(people, deeds)[-1] if deeds else ([], [])

    def held_behind(self, people, deeds):
        return holdings(people, deeds)[-1] if deeds else [(coins, 0, sacks, 0) for coins, sacks in people]

    def check_slow_day(self, people, deeds):
        slow = slow_day(people, deeds)
        self.check_rows(answers(people, deeds), slow[0])
        self.check_rows(books(people, deeds), slow[1])
        self.check_rows(holdings(people, deeds), slow[2])

    def check_rows(self, told, asked):
        # For long lists assertEqual would take minutes to work out how they differ.
        if told != asked:
            self.assertEqual(len(told), len(asked))
            place = [row == other for row, other in zip(told, asked)].index(False)
            self.fail(f"behind deed {place}: {told[place]!r} was told, not {asked[place]!r}")

    def check_what_always_holds(self, people, deeds):
        all_books = books(people, deeds)
        all_held = holdings(people, deeds)
        self.assertEqual(len(all_books), len(deeds))
        self.assertEqual(len(all_held), len(deeds))
        for (bids, offers), held in zip(all_books, all_held):
            self.check_nothing_is_lost(people, held)
            self.check_laid_down(bids, offers, held)
            self.check_sides(bids, offers)

    def check_nothing_is_lost(self, people, held):
        self.assertEqual(sum(row[0] + row[1] for row in held), sum(coins for coins, sacks in people))
        self.assertEqual(sum(row[2] + row[3] for row in held), sum(sacks for coins, sacks in people))
        self.assertGreaterEqual(min((number for row in held for number in row), default=0), 0)

    def check_laid_down(self, bids, offers, held):
        for who, row in enumerate(held):
            self.assertEqual(row[1], sum(left * price for number, owner, left, price in bids if owner == who))
            self.assertEqual(row[3], sum(left for number, owner, left, price in offers if owner == who))

    def check_sides(self, bids, offers):
        bid_prices = [price for number, owner, left, price in bids]
        offer_prices = [price for number, owner, left, price in offers]
        self.assertEqual(bid_prices, sorted(bid_prices, reverse=True))
        self.assertEqual(offer_prices, sorted(offer_prices))
        if bids and offers:
            self.assertLess(bid_prices[0], offer_prices[0])
        self.assertGreaterEqual(min((left for number, owner, left, price in bids + offers), default=1), 1)
