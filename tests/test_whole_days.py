"""Points [1] to [14] over whole days: what holds behind every deed, and days compared with a slow market's."""

import itertools
import unittest

from cornring.day import answers, books, holdings
from days import DayCase, some_day

FEW_PEOPLE = [(7, 2), (4, 3)]
FEW_DEEDS = [
    ("bid", 0, 2, 2), ("bid", 1, 1, 3), ("offer", 0, 2, 3), ("offer", 1, 3, 2), ("take", 0, 2), ("take", 1, 9),
    ("give", 0, 1), ("give", 1, 3), ("strike", 0, 0), ("strike", 1, 1), ("change", 0, 0, 1, 2),
    ("change", 0, 0, 3, 2), ("change", 1, 0, 2, 3), ("change", 1, 1, 1, 2), ("change", 0, 1, 2, 1),
]


def kinds_of(told, deeds):
    return {(deed[0], row if isinstance(row, str) else "done") for row, deed in zip(told, deeds)}


class WholeDays(DayCase):
    def test_all_short_days(self):
        for deeds in itertools.product(FEW_DEEDS, repeat=3):
            self.check_slow_day(FEW_PEOPLE, list(deeds))

    def test_many_days(self):
        for seed in range(300):
            people, deeds = some_day(seed, 1 + seed % 5, 40)
            with self.subTest(seed=seed):
                self.check_slow_day(people, deeds)
                self.check_what_always_holds(people, deeds)

    def test_long_days(self):
        for seed in range(10):
            people, deeds = some_day(seed, 8, 200, 12, 20)
            with self.subTest(seed=seed):
                self.check_slow_day(people, deeds)
                self.check_what_always_holds(people, deeds)

    def test_the_days_hold_every_kind_of_answer(self):
        seen = set()
        for seed in range(300):
            people, deeds = some_day(seed, 1 + seed % 5, 40)
            seen |= kinds_of(answers(people, deeds), deeds)
        everywhere = [(kind, row) for kind in ("bid", "offer", "take", "give", "strike", "change")
                      for row in ("done", "nobody")]
        numbered = [("strike", "no order"), ("change", "no order")]
        counted = [(kind, "no sacks") for kind in ("bid", "offer", "take", "give", "change")]
        priced = [(kind, "no price") for kind in ("bid", "offer", "change")]
        short = [("bid", "too poor"), ("change", "too poor")] + [(k, "too few") for k in ("offer", "give", "change")]
        self.assertEqual(sorted(seen), sorted(everywhere + numbered + counted + priced + short))

    def test_a_day_goes_as_its_beginning_went(self):
        people, deeds = some_day(7, 4, 40)
        for tell in (answers, books, holdings):
            whole = tell(people, deeds)
            for length in range(len(deeds) + 1):
                self.check_rows(tell(people, deeds[:length]), whole[:length])


if __name__ == "__main__":
    unittest.main()
