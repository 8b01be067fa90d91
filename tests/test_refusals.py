"""Point [14]: the six reasons to refuse a deed, the first that holds, and that nothing is changed then."""

import unittest

from cornring.day import answers, books, holdings
from days import DayCase

GREAT = 10 ** 100
# Person 0 has 10 coins and 5 sacks free, the bid 0 and the offer 1; person 1 has the bid 2 and the offer 3.
PEOPLE = [(25, 8), (20, 6)]
DEEDS = [("bid", 0, 3, 5), ("offer", 0, 3, 9), ("bid", 1, 2, 5), ("offer", 1, 2, 9)]
NOT_THERE = (-1, 2, 3, -2, -GREAT, GREAT)
BELOW_ONE = (0, -1, -2, -GREAT)


class Refused(DayCase):
    def check(self, refused, answer):
        with self.subTest(refused):
            self.check_refused(PEOPLE, DEEDS, refused, answer)

    def test_none_of_the_deeds_ahead_is_refused(self):
        self.assertEqual(answers(PEOPLE, DEEDS), [(0, []), (1, []), (2, []), (3, [])])
        self.assertEqual(holdings(PEOPLE, DEEDS)[-1], [(10, 15, 5, 3), (10, 10, 4, 2)])

    def test_nobody(self):
        for who in NOT_THERE:
            self.check(("bid", who, 1, 1), "nobody")
            self.check(("offer", who, 1, 10), "nobody")
            self.check(("take", who, 1), "nobody")
            self.check(("give", who, 1), "nobody")
            self.check(("strike", who, 0), "nobody")
            self.check(("change", who, 0, 1, 5), "nobody")

    def test_no_order(self):
        for number in (2, 3, 4, 5, -1, -2, -GREAT, GREAT):
            self.check(("strike", 0, number), "no order")
            self.check(("change", 0, number, 1, 5), "no order")
        for number in (0, 1):
            self.check(("strike", 1, number), "no order")
            self.check(("change", 1, number, 1, 5), "no order")

    def test_no_order_to_change_that_is_gone_or_struck(self):
        self.check_refused(PEOPLE, DEEDS + [("strike", 0, 0)], ("change", 0, 0, 1, 5), "no order")
        self.check_refused(PEOPLE, DEEDS + [("give", 1, 3)], ("change", 0, 0, 1, 5), "no order")

    def test_no_sacks(self):
        for many in BELOW_ONE:
            self.check(("bid", 0, many, 1), "no sacks")
            self.check(("offer", 0, many, 10), "no sacks")
            self.check(("take", 0, many), "no sacks")
            self.check(("give", 0, many), "no sacks")
            self.check(("change", 0, 0, many, 5), "no sacks")
            self.check(("change", 0, 1, many, 9), "no sacks")
            self.check(("change", 0, 0, many, 4), "no sacks")

    def test_no_price(self):
        for price in BELOW_ONE:
            self.check(("bid", 0, 1, price), "no price")
            self.check(("offer", 0, 1, price), "no price")
            self.check(("change", 0, 0, 1, price), "no price")
            self.check(("change", 0, 1, 1, price), "no price")

    def test_too_poor(self):
        self.check(("bid", 0, 11, 1), "too poor")
        self.check(("bid", 0, 1, 11), "too poor")
        self.check(("bid", 0, 3, 4), "too poor")
        self.check(("bid", 0, GREAT, GREAT), "too poor")
        self.check(("change", 0, 0, 26, 1), "too poor")
        self.check(("change", 0, 0, 6, 5), "too poor")
        self.check(("change", 0, 0, GREAT, GREAT), "too poor")

    def test_too_few(self):
        self.check(("offer", 0, 6, 10), "too few")
        self.check(("offer", 0, GREAT, 1), "too few")
        self.check(("give", 0, 6), "too few")
        self.check(("give", 0, GREAT), "too few")
        self.check(("change", 0, 1, 9, 9), "too few")
        self.check(("change", 0, 1, 9, 10), "too few")

    def test_a_taking_is_never_too_poor(self):
        people = [(0, 0), (0, 3)]
        self.assertEqual(answers(people, [("offer", 1, 3, 5), ("take", 0, 3)])[-1], [])

    def test_the_next_bounds_are_not_refused(self):
        for deed, answer in (
            (("bid", 0, 10, 1), (4, [])),
            (("offer", 0, 5, 10), (4, [])),
            (("take", 1, 1), [(1, 1, 9)]),
            (("give", 0, 5), [(0, 3, 5), (2, 2, 5)]),
            (("change", 0, 0, 25, 1), []),
            (("change", 0, 0, 5, 5), []),
            (("change", 0, 1, 8, 9), []),
            (("change", 0, 1, 1, 9), []),
            (("strike", 1, 3), 2),
        ):
            with self.subTest(deed):
                self.assertEqual(answers(PEOPLE, DEEDS + [deed])[-1], answer)

    def test_several_refused_ones_behind_one_another(self):
        refused = [("bid", 9, 1, 1), ("strike", 0, 2), ("take", 0, 0), ("bid", 0, 1, 0), ("bid", 0, 11, 1),
                   ("give", 0, 6), ("change", 0, 0, 6, 5)]
        told = ["nobody", "no order", "no sacks", "no price", "too poor", "too few", "too poor"]
        deeds = DEEDS + refused + [("bid", 0, 1, 1)]
        self.assertEqual(answers(PEOPLE, deeds)[4:], told + [(4, [])])
        self.assertEqual(books(PEOPLE, deeds)[4:-1], [books(PEOPLE, DEEDS)[-1]] * 7)
        self.assertEqual(holdings(PEOPLE, deeds)[4:-1], [holdings(PEOPLE, DEEDS)[-1]] * 7)


class TheFirstReasonIsTold(DayCase):
    def check(self, refused, answer):
        with self.subTest(refused):
            self.check_refused(PEOPLE, DEEDS, refused, answer)

    def test_nobody_ahead_of_no_order(self):
        for who in NOT_THERE:
            self.check(("strike", who, 4), "nobody")
            self.check(("change", who, 4, 1, 5), "nobody")

    def test_nobody_ahead_of_no_sacks(self):
        for deed in (("bid", 2, 0, 1), ("offer", -1, 0, 1), ("take", 2, 0), ("give", -1, 0), ("change", 2, 0, 0, 5)):
            self.check(deed, "nobody")

    def test_nobody_ahead_of_no_price(self):
        for deed in (("bid", -1, 1, 0), ("offer", 2, 1, 0), ("change", -1, 0, 1, 0)):
            self.check(deed, "nobody")

    def test_nobody_ahead_of_too_poor_and_too_few(self):
        for deed in (("bid", 2, GREAT, GREAT), ("bid", -1, GREAT, GREAT), ("offer", 2, GREAT, 1),
                     ("offer", -1, GREAT, 1), ("give", 2, GREAT), ("give", -1, GREAT), ("change", -2, 0, GREAT, 1)):
            self.check(deed, "nobody")

    def test_no_order_ahead_of_no_sacks_and_no_price(self):
        for number in (2, 3, 4, -1):
            self.check(("change", 0, number, 0, 5), "no order")
            self.check(("change", 0, number, 1, 0), "no order")
            self.check(("change", 0, number, 0, 0), "no order")

    def test_no_order_ahead_of_too_poor_and_too_few(self):
        for number in (2, 3, 4, -1):
            self.check(("change", 0, number, GREAT, GREAT), "no order")

    def test_no_sacks_ahead_of_no_price(self):
        for deed in (("bid", 0, 0, 0), ("offer", 0, 0, 0), ("change", 0, 0, 0, 0), ("change", 0, 1, -1, -1)):
            self.check(deed, "no sacks")

    def test_no_sacks_ahead_of_too_poor(self):
        # Both are below nought, so their product is a great many coins.
        self.check(("bid", 0, -GREAT, -GREAT), "no sacks")
        self.check(("change", 0, 0, -GREAT, -GREAT), "no sacks")

    def test_no_sacks_from_somebody_who_has_nothing(self):
        people = [(1, 0), (0, 0)]
        for deed in (("bid", 1, 0, 1), ("offer", 1, 0, 1), ("take", 1, 0), ("give", 1, 0), ("give", 1, -1)):
            self.check_refused(people, [], deed, "no sacks")

    def test_no_price_ahead_of_too_few(self):
        self.check(("offer", 0, 6, 0), "no price")
        self.check(("change", 0, 1, 9, 0), "no price")
        self.check(("change", 0, 0, GREAT, 0), "no price")


if __name__ == "__main__":
    unittest.main()
