"""The interface of a day, and point [1]: what is handed in is not changed, and the same day is always told the same."""

import copy
import unittest

from cornring.day import answers, books, holdings
from days import some_day

TELLERS = (answers, books, holdings)
PEOPLE = [(100, 5), (20, 8)]
DEEDS = [
    ("bid", 0, 3, 10), ("offer", 1, 2, 9), ("offer", 1, 2, 12), ("take", 0, 1), ("give", 1, 1), ("change", 1, 2, 1, 11),
    ("strike", 1, 2), ("strike", 1, 2), ("bid", 2, 1, 1),
]
EVERY_KIND = [
    ("bid", 0, 1, 1), ("offer", 0, 1, 1), ("take", 0, 1), ("give", 0, 1), ("strike", 0, 0), ("change", 0, 0, 1, 1),
]


class Interface(unittest.TestCase):
    def test_a_day_with_every_kind_of_deed(self):
        self.assertEqual(answers(PEOPLE, DEEDS), [
            (0, []), (1, [(0, 2, 10)]), (2, []), [(2, 1, 12)], [(0, 1, 10)], [], 1, "no order", "nobody",
        ])
        self.assertEqual(books(PEOPLE, DEEDS), [
            ([(0, 0, 3, 10)], []), ([(0, 0, 1, 10)], []), ([(0, 0, 1, 10)], [(2, 1, 2, 12)]),
            ([(0, 0, 1, 10)], [(2, 1, 1, 12)]), ([], [(2, 1, 1, 12)]), ([], [(2, 1, 1, 11)]),
            ([], []), ([], []), ([], []),
        ])
        self.assertEqual(holdings(PEOPLE, DEEDS), [
            [(70, 30, 5, 0), (20, 0, 8, 0)], [(70, 10, 7, 0), (40, 0, 6, 0)], [(70, 10, 7, 0), (40, 0, 4, 2)],
            [(58, 10, 8, 0), (52, 0, 4, 1)], [(58, 0, 9, 0), (62, 0, 3, 1)], [(58, 0, 9, 0), (62, 0, 3, 1)],
            [(58, 0, 9, 0), (62, 0, 4, 0)], [(58, 0, 9, 0), (62, 0, 4, 0)], [(58, 0, 9, 0), (62, 0, 4, 0)],
        ])

    def test_no_deeds(self):
        for people in ([], [(0, 0)], PEOPLE):
            for tell in TELLERS:
                self.assertEqual(tell(people, []), [])

    def test_no_people_at_all(self):
        self.assertEqual(answers([], EVERY_KIND), ["nobody"] * 6)
        self.assertEqual(books([], EVERY_KIND), [([], [])] * 6)
        self.assertEqual(holdings([], EVERY_KIND), [[]] * 6)

    def test_people_without_anything(self):
        told = ["too poor", "too few", [], "too few", "no order", "no order"]
        self.assertEqual(answers([(0, 0)], EVERY_KIND), told)
        self.assertEqual(holdings([(0, 0)], EVERY_KIND), [[(0, 0, 0, 0)]] * 6)

    def test_the_kinds_that_are_told(self):
        for seed in range(20):
            people, deeds = some_day(seed, 3, 30)
            for answer in answers(people, deeds):
                self.assertIn(type(answer), (tuple, list, int, str))
                if type(answer) is tuple:
                    self.assertEqual([type(part) for part in answer], [int, list])
                self.check_rows(answer[1] if type(answer) is tuple else answer, 3)
            for book in books(people, deeds):
                self.assertIs(type(book), tuple)
                self.assertEqual([type(side) for side in book], [list, list])
                self.check_rows(book[0], 4)
                self.check_rows(book[1], 4)
            for held in holdings(people, deeds):
                self.assertIs(type(held), list)
                self.check_rows(held, 4)

    def check_rows(self, rows, length):
        if type(rows) is list:
            self.assertEqual([type(row) for row in rows], [tuple] * len(rows))
            self.assertEqual([[type(number) for number in row] for row in rows], [[int] * length] * len(rows))


class HandedIn(unittest.TestCase):
    def test_people_and_deeds_stay_as_they_were(self):
        for tell in TELLERS:
            people, deeds = copy.deepcopy(PEOPLE), copy.deepcopy(DEEDS)
            tell(people, deeds)
            self.assertEqual((people, deeds), (PEOPLE, DEEDS))
            for seed in range(20):
                people, deeds = some_day(seed, 4, 40)
                before = copy.deepcopy((people, deeds))
                tell(people, deeds)
                self.assertEqual((people, deeds), before)

    def test_told_again_it_is_the_same(self):
        for tell in TELLERS:
            first = tell(PEOPLE, DEEDS)
            for other in TELLERS:
                other(PEOPLE, DEEDS[:5])
            self.assertEqual(tell(PEOPLE, DEEDS), first)

    def test_nothing_that_was_told_is_kept(self):
        for tell in TELLERS:
            first = copy.deepcopy(tell(PEOPLE, DEEDS))
            told = tell(PEOPLE, DEEDS)
            for row in told:
                if isinstance(row, list):
                    row.append(99)
            told.clear()
            self.assertEqual(tell(PEOPLE, DEEDS), first)

    def test_no_two_rows_share_a_list(self):
        deeds = [("bid", 0, 1, 1), ("take", 0, 1), ("take", 0, 1)]
        for tell in TELLERS:
            told = tell(PEOPLE, deeds)
            self.assertIsNot(told[1], told[2])
        behind = books(PEOPLE, deeds)
        self.assertIsNot(behind[1][0], behind[2][0])
        self.assertIsNot(behind[1][1], behind[2][1])


if __name__ == "__main__":
    unittest.main()
