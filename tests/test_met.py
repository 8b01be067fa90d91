"""Points [5] and [6]: the orders are met one by one, each whole but for the last."""

import itertools
import unittest

from cornring.meeting import met

EIGHTY_FIGURES = 10 ** 79


class Met(unittest.TestCase):
    def check(self, lefts, many, sacks):
        self.assertEqual(met(lefts, many), sacks)

    def test_no_orders(self):
        self.check([], 0, [])
        self.check([], 1, [])
        self.check([], 100, [])

    def test_nothing_wanted(self):
        self.check([5], 0, [])
        self.check([5, 3, 4], 0, [])

    def test_one_wanted(self):
        self.check([5, 3, 4], 1, [1])
        self.check([1, 3, 4], 1, [1])

    def test_exactly_one_order(self):
        self.check([5, 3, 4], 5, [5])

    def test_one_less_and_one_more_than_one_order(self):
        self.check([5, 3, 4], 4, [4])
        self.check([5, 3, 4], 6, [5, 1])

    def test_exactly_two_orders(self):
        self.check([5, 3, 4], 8, [5, 3])

    def test_ends_within_a_later_order(self):
        self.check([5, 3, 4], 7, [5, 2])
        self.check([5, 3, 4], 10, [5, 3, 2])

    def test_exactly_all(self):
        self.check([5, 3, 4], 12, [5, 3, 4])

    def test_one_less_than_all(self):
        self.check([5, 3, 4], 11, [5, 3, 3])
        self.check([5, 3, 1], 8, [5, 3])

    def test_one_more_than_all(self):
        self.check([5, 3, 4], 13, [5, 3, 4])

    def test_far_more_than_all(self):
        self.check([5, 3, 4], 10 ** 100, [5, 3, 4])

    def test_great_numbers(self):
        for great in (EIGHTY_FIGURES, 10 ** 120):
            lefts = [great, great + 1, 1]
            self.check(lefts, great - 1, [great - 1])
            self.check(lefts, great, [great])
            self.check(lefts, great + 1, [great, 1])
            self.check(lefts, 2 * great, [great, great])
            self.check(lefts, 2 * great + 1, [great, great + 1])
            self.check(lefts, 2 * great + 2, [great, great + 1, 1])
            self.check(lefts, 2 * great + 3, [great, great + 1, 1])

    def test_two_hundred_orders(self):
        self.check([1] * 200, 199, [1] * 199)
        self.check([1] * 200, 201, [1] * 200)

    def test_all_short_lists(self):
        for length in range(5):
            for lefts in itertools.product((1, 2, 3), repeat=length):
                for many in range(sum(lefts) + 3):
                    self.check_whole_but_last(list(lefts), many)

    def check_whole_but_last(self, lefts, many):
        sacks = met(lefts, many)
        self.assertEqual(sum(sacks), min(many, sum(lefts)), (lefts, many))
        self.assertTrue(all(part >= 1 for part in sacks), (lefts, many))
        self.assertEqual(sacks[:-1], lefts[:len(sacks)][:-1], (lefts, many))
        self.assertTrue(all(part <= left for part, left in zip(sacks, lefts)), (lefts, many))

    def test_list_stays_as_it_was(self):
        for many in (0, 1, 5, 7, 12, 13):
            lefts = [5, 3, 4]
            sacks = met(lefts, many)
            self.assertEqual(lefts, [5, 3, 4])
            sacks.append(99)
            self.assertEqual(lefts, [5, 3, 4])

    def test_asked_again_it_answers_the_same(self):
        met([5, 3], 6).append(99)
        self.check([5, 3], 6, [5, 1])


if __name__ == "__main__":
    unittest.main()
