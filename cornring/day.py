"""A day: the deeds done one by one, and what is to be told of each."""

from cornring.errors import Refusal
from cornring.market import Market


def do_deed(market, deed):
    kind = deed[0]
    who = deed[1]
    if kind == "take":
        return market.take(who, deed[2])
    if kind == "give":
        return market.give(who, deed[2])
    if kind == "strike":
        return market.strike(who, deed[2])
    if kind == "change":
        return market.change(who, deed[2], deed[3], deed[4])
    return market.come(kind, who, deed[2], deed[3])


def reply_to(market, deed):
    try:
        return do_deed(market, deed)
    except Refusal as refusal:
        return refusal.answer


def answers(people, deeds):
    market = Market(people)
    return [reply_to(market, deed) for deed in deeds]


def books(people, deeds):
    market = Market(people)
    behind = []
    for deed in deeds:
        reply_to(market, deed)
        behind.append(market.book.told())
    return behind


def holdings(people, deeds):
    market = Market(people)
    behind = []
    for deed in deeds:
        reply_to(market, deed)
        behind.append([purse.told() for purse in market.purses])
    return behind
