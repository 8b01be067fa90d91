"""Point [1]: numbers of a hundred figures, a hundred people, two hundred deeds, and somewhat beyond."""

import unittest

from cornring.day import answers, books, holdings
from days import DayCase, some_day

GREAT = 10 ** 99 + 7
BEYOND = 10 ** 120 + 11


def dearer(people, deeds, times):
    """The same day, with a coin changed into `times` coins."""
    richer = [(coins * times, sacks) for coins, sacks in people]
    return richer, [deed[:-1] + (deed[-1] * times,) if deed[0] in ("bid", "offer", "change") else deed
                    for deed in deeds]


def dearer_trades(trades, times):
    return [(number, sacks, price * times) for number, sacks, price in trades]


def dearer_answer(answer, times):
    if isinstance(answer, list):
        return dearer_trades(answer, times)
    if isinstance(answer, tuple):
        return (answer[0], dearer_trades(answer[1], times))
    return answer


class GreatNumbers(DayCase):
    def test_each_kind_of_deed(self):
        for great in (GREAT, BEYOND):
            self.check_great(great)

    def check_great(self, great):
        much = great * great
        self.check_day([(much, great), (much, great)], [
            (("offer", 0, great, great), (0, []),
             [], [(0, 0, great, great)], [(much, 0, 0, great), (much, 0, great, 0)]),
            (("bid", 1, great - 1, great), (1, [(0, great - 1, great)]),
             [], [(0, 0, 1, great)], [(2 * much - great, 0, 0, 1), (great, 0, 2 * great - 1, 0)]),
            (("take", 1, great), [(0, 1, great)],
             [], [], [(2 * much, 0, 0, 0), (0, 0, 2 * great, 0)]),
            (("bid", 0, 2 * great, great), (2, []),
             [(2, 0, 2 * great, great)], [], [(0, 2 * much, 0, 0), (0, 0, 2 * great, 0)]),
            (("give", 1, great + 1), [(2, great + 1, great)],
             [(2, 0, great - 1, great)], [],
             [(0, much - great, great + 1, 0), (much + great, 0, great - 1, 0)]),
            (("change", 0, 2, 1, much - great + 1), "too poor",
             [(2, 0, great - 1, great)], [],
             [(0, much - great, great + 1, 0), (much + great, 0, great - 1, 0)]),
            (("change", 0, 2, 1, much - great), [],
             [(2, 0, 1, much - great)], [],
             [(0, much - great, great + 1, 0), (much + great, 0, great - 1, 0)]),
            (("strike", 0, 2), 1,
             [], [], [(much - great, 0, great + 1, 0), (much + great, 0, great - 1, 0)]),
        ])

    def test_coins_that_suffice_exactly_and_for_one_less(self):
        bid = [("bid", 0, GREAT, GREAT)]
        self.assertEqual(answers([(GREAT * GREAT, 0)], bid), [(0, [])])
        self.assertEqual(answers([(GREAT * GREAT - 1, 0)], bid), ["too poor"])

    def test_a_taking_that_ends_at_the_last_coin(self):
        deeds = [("offer", 1, GREAT, GREAT), ("take", 0, GREAT)]
        for coins, sacks in ((GREAT * GREAT, GREAT), (GREAT * GREAT - 1, GREAT - 1), (GREAT, 1)):
            self.assertEqual(answers([(coins, 0), (0, GREAT)], deeds)[-1], [(0, sacks, GREAT)])
        self.assertEqual(answers([(GREAT - 1, 0), (0, GREAT)], deeds)[-1], [])

    def test_prices_that_differ_in_the_last_figure(self):
        people = [(9 * GREAT, 5), (9 * GREAT, 5)]
        deeds = [("offer", 1, 1, GREAT + 1), ("offer", 1, 1, GREAT), ("bid", 0, 1, GREAT - 1), ("bid", 0, 1, GREAT)]
        self.assertEqual(answers(people, deeds), [(0, []), (1, []), (2, []), (3, [(1, 1, GREAT)])])

    def test_a_day_in_great_coins_goes_as_in_small_ones(self):
        for seed in range(20):
            people, deeds = some_day(seed, 4, 40)
            richer, dear = dearer(people, deeds, GREAT)
            self.check_rows(answers(richer, dear), [dearer_answer(row, GREAT) for row in answers(people, deeds)])
            self.check_rows(holdings(richer, dear), [
                [(row[0] * GREAT, row[1] * GREAT, row[2], row[3]) for row in rows] for rows in holdings(people, deeds)
            ])
            self.check_what_always_holds(richer, dear)


class ManyPeopleAndDeeds(DayCase):
    def test_a_hundred_people_and_two_hundred_deeds(self):
        for people_count, deed_count in ((100, 200), (130, 300)):
            people, deeds = some_day(people_count, people_count, deed_count)
            self.check_slow_day(people, deeds)
            self.check_what_always_holds(people, deeds)

    def test_a_book_of_two_hundred_orders(self):
        people = [(10 ** 6, 0)] * 99 + [(0, 300)]
        bids = [("bid", turn % 99, 1, 1 + turn % 7) for turn in range(250)]
        rows = sorted(((turn, turn % 99, 1, 1 + turn % 7) for turn in range(250)), key=lambda row: (-row[3], row[0]))
        self.check_rows(books(people, bids)[-1][0], rows)
        trades = [(number, 1, price) for number, owner, left, price in rows]
        self.check_rows(answers(people, bids + [("give", 99, 300)])[-1], trades)
        self.check_rows(answers(people, bids + [("offer", 99, 260, 1)])[-1][1], trades)
        self.assertEqual(books(people, bids + [("offer", 99, 260, 1)])[-1], ([], [(250, 99, 10, 1)]))

    def test_the_last_of_a_hundred_people(self):
        people = [(1, 1)] * 100
        self.assertEqual(answers(people, [("bid", 99, 1, 1), ("bid", 100, 1, 1), ("bid", 0, 1, 1)]),
                         [(0, []), "nobody", (1, [])])


if __name__ == "__main__":
    unittest.main()
