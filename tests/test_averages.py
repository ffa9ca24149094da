import unittest
from fractions import Fraction
from itertools import combinations, product

from helper import (
    GREATEST, ask, average, average_of, begin, by_drawing, by_drawing_with_putting_back, last, leave,
    squared_distance, told)

SMALL = [(red, other) for red in range(7) for other in range(7 - red) if red + other > 0]
CALLS = ("mean", "spread", "spreadback")


def distance_of(numbers):
    middle = average_of(numbers)
    return sum((number - middle) ** 2 for number in numbers) / len(numbers)


def reds_without_putting_back(red, other, n):
    return [sum(chosen) for chosen in combinations([1] * red + [0] * other, n)]


def reds_with_putting_back(red, other, n):
    return [sum(chosen) for chosen in product([1] * red + [0] * other, repeat=n)]


class Mean(unittest.TestCase):
    def test_over_all_sets(self):
        for red, other in SMALL:
            for n in range(red + other + 1):
                reds = reds_without_putting_back(red, other, n)
                self.assertEqual(last(begin(red, other), ("mean", n)), told(average_of(reds)))

    def test_of_24(self):
        for red in range(25):
            for n in range(25):
                self.assertEqual(
                    last(("begin", 24, red), ("mean", n)), told(average(by_drawing(red, 24 - red, n))))

    def test_nothing_in_common(self):
        self.assertEqual(last(("begin", 24, 9), ("mean", 10)), [0, 15, 4])
        self.assertEqual(last(("begin", 24, 8), ("mean", 6)), [0, 2, 1])

    def test_one_left(self):
        self.assertEqual(ask(("begin", 1, 1), ("mean", 0), ("mean", 1)), [[0], [0, 0, 1], [0, 1, 1]])


class Spread(unittest.TestCase):
    def test_over_all_sets(self):
        for red, other in SMALL:
            for n in range(red + other + 1):
                reds = reds_without_putting_back(red, other, n)
                expected = told(distance_of(reds)) if red + other > 1 else [-6]
                self.assertEqual(last(begin(red, other), ("spread", n)), expected)

    def test_of_24(self):
        for red in range(25):
            for n in range(25):
                self.assertEqual(
                    last(("begin", 24, red), ("spread", n)),
                    told(squared_distance(by_drawing(red, 24 - red, n))))

    def test_two_left(self):
        self.assertEqual(
            ask(("begin", 2, 1), ("spread", 0), ("spread", 1), ("spread", 2)),
            [[0], [0, 0, 1], [0, 1, 4], [0, 0, 1]])

    def test_fewer_than_two_left(self):
        self.assertEqual(ask(("begin", 1, 1), ("spread", 0), ("spread", 1)), [[0], [-6], [-6]])
        self.assertEqual(
            ask(("begin", 2, 1), ("draw", 0), ("spread", 1), ("draw", 1), ("spread", 0), "back", "back", ("spread", 1)),
            [[0], [1], [-6], [0], [-6], [1], [0], [0, 1, 4]])

    def test_all_drawn_are_as_many_for_certain(self):
        for m in range(2, 25):
            self.assertEqual(last(("begin", m, m // 2), ("spread", m)), [0, 0, 1])


class Spreadback(unittest.TestCase):
    def test_over_all_rows_of_draws(self):
        for red, other in SMALL:
            for n in range(min(red + other, 5) + 1):
                reds = reds_with_putting_back(red, other, n)
                self.assertEqual(last(begin(red, other), ("spreadback", n)), told(distance_of(reds)))

    def test_of_24(self):
        for red in range(25):
            for n in range(25):
                self.assertEqual(
                    last(("begin", 24, red), ("spreadback", n)),
                    told(squared_distance(by_drawing_with_putting_back(red, 24 - red, n))))

    def test_one_left(self):
        self.assertEqual(
            ask(("begin", 1, 1), ("spreadback", 0), ("spreadback", 1)), [[0], [0, 0, 1], [0, 0, 1]])

    def test_nearer_together_than_with_putting_back(self):
        for red in range(1, 24):
            for n in range(2, 25):
                calls = (("begin", 24, red), ("spread", n), ("spreadback", n))
                without, putting_back = [Fraction(*answer[1:]) for answer in ask(*calls)[1:]]
                self.assertLess(without, putting_back)


class Swapped(unittest.TestCase):
    def test_over_all_sets_with_n_red_ones(self):
        for red, other in SMALL:
            for n in range(red + other + 1):
                reds = reds_without_putting_back(n, red + other - n, red)
                for k in range(red + other + 2):
                    expected = told(Fraction(reds.count(k), len(reds)))
                    self.assertEqual(last(begin(red, other), ("swapped", n, k)), expected)
                    self.assertEqual(last(*leave(red, other), ("swapped", n, k)), expected)

    def test_of_24_one_draw_after_another(self):
        for red in range(25):
            for n in range(25):
                chances = by_drawing(n, 24 - n, red)
                calls = [("begin", 24, red)] + [("swapped", n, k) for k in range(26)]
                self.assertEqual(ask(*calls)[1:], [told(chances.get(k, 0)) for k in range(26)])

    def test_k_of_0(self):
        self.assertEqual(last(("begin", 5, 2), ("swapped", 0, 0)), [0, 1, 1])
        self.assertEqual(last(("begin", 5, 2), ("swapped", 3, 0)), [0, 1, 10])
        self.assertEqual(last(("begin", 5, 2), ("swapped", 0, 1)), [0, 0, 1])

    def test_no_red_ones_and_all_red(self):
        self.assertEqual(ask(("begin", 24, 0), ("swapped", 9, 0), ("swapped", 9, 1))[1:], [[0, 1, 1], [0, 0, 1]])
        self.assertEqual(ask(("begin", 24, 24), ("swapped", 9, 9), ("swapped", 9, 8))[1:], [[0, 1, 1], [0, 0, 1]])

    def test_none_left(self):
        self.assertEqual(
            ask(("begin", 1, 1), ("draw", 1), ("swapped", 0, 0), ("swapped", 0, 1), ("swapped", 1, 0), "told"),
            [[0], [0], [0, 1, 1], [0, 0, 1], [-22], [1, 1, 1, 1]])

    def test_more_red_asked_for_than_there_are(self):
        for k in (3, 4, 5, 6, 24, 25, GREATEST):
            self.assertEqual(last(("begin", 5, 2), ("swapped", 4, k)), [0, 0, 1])

    def test_more_than_are_left(self):
        for m in (2, 5, 24):
            for n in (m + 1, 100, GREATEST):
                for k in (0, 1, n, GREATEST):
                    self.assertEqual(ask(("begin", m, 1), ("swapped", n, k), "told")[1:], [[-22], [m, 1, 0, 0]])
        self.assertEqual(
            ask(("begin", 4, 2), ("draw", 0), ("swapped", 4, 1), ("swapped", 3, 1), ("swapped", 3, 2)),
            [[0], [3], [-22], [0, 0, 1], [0, 1, 1]])


class AllThree(unittest.TestCase):
    def test_no_red_ones_and_all_red(self):
        for n in range(25):
            self.assertEqual(
                ask(("begin", 24, 0), ("mean", n), ("spread", n), ("spreadback", n)),
                [[0], [0, 0, 1], [0, 0, 1], [0, 0, 1]])
            self.assertEqual(
                ask(("begin", 24, 24), ("mean", n), ("spread", n), ("spreadback", n)),
                [[0], [0, n, 1], [0, 0, 1], [0, 0, 1]])

    def test_of_what_is_left(self):
        self.assertEqual(
            ask(("begin", 24, 4), *[("draw", 0)] * 16, *[("draw", 1)] * 2, ("mean", 3), ("spread", 3),
                ("spreadback", 3), "back", ("mean", 3))[19:],
            [[0, 1, 1], [0, 2, 5], [0, 2, 3], [1], [0, 9, 7]])

    def test_more_than_are_left(self):
        for m in (2, 5, 24):
            for n in (m + 1, 100, GREATEST):
                for call in CALLS:
                    self.assertEqual(last(("begin", m, 1), (call, n)), [-22])

    def test_more_than_are_left_after_draws(self):
        for call in CALLS:
            self.assertEqual(last(("begin", 4, 2), ("draw", 0), (call, 4)), [-22])
            self.assertEqual(last(("begin", 4, 2), ("draw", 0), (call, 3))[0], 0)

    def test_none_left(self):
        for call in CALLS:
            self.assertEqual(
                ask(("begin", 1, 1), ("draw", 1), (call, 0), "back", "chance"),
                [[0], [0], [-6], [1], [0, 1, 1]])

    def test_more_than_are_left_goes_ahead_of_too_few_left(self):
        for call in CALLS:
            for n in (1, 2, GREATEST):
                self.assertEqual(last(("begin", 1, 1), ("draw", 1), (call, n)), [-22])
        self.assertEqual(last(("begin", 1, 1), ("spread", 2)), [-22])
        self.assertEqual(last(("begin", 1, 1), ("spread", GREATEST)), [-22])


if __name__ == "__main__":
    unittest.main()
