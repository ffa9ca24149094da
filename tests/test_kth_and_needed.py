import unittest
from fractions import Fraction
from itertools import combinations

from helper import (
    GREATEST, ask, average_of, begin, by_drawing, last, leave, likely_at_least, likely_kth_at, orders,
    sets_by_enumeration, told)

SMALL = [(red, other) for red in range(7) for other in range(7 - red) if red + other > 0]
LARGE = [(red, 24 - red) for red in range(25)]


def least_needed(red, other, k, a, c):
    for n in range(red + other + 1):
        sets = sets_by_enumeration(red, other, n)
        if Fraction(sum(sets[k:]), sum(sets)) >= Fraction(a, c):
            return [n]
    return [-33]


def least_certain(red, other, k):
    things = [1] * red + [0] * other
    for n in range(red + other + 1):
        if min(sum(chosen) for chosen in combinations(things, n)) >= k:
            return [n]
    return [-33]


def draw_of_kth(order, k):
    """With which draw, the first being 1, the k-th red one comes."""
    places = [place for place, kind in enumerate(order, start=1) if kind == 1]
    return places[k - 1]


class Needed(unittest.TestCase):
    def test_over_all_sets(self):
        for red, other in SMALL:
            for k in range(red + 2):
                for c in (1, 2, 3, 7, 20):
                    calls = [("needed", k, a, c) for a in range(c + 1)]
                    expected = [least_needed(red, other, k, a, c) for a in range(c + 1)]
                    self.assertEqual(ask(begin(red, other), *calls)[1:], expected)
                    self.assertEqual(ask(*leave(red, other), *calls)[-len(calls):], expected)

    def test_of_24_so_many_and_no_fewer(self):
        for red, other in LARGE:
            for k in range(1, red + 1):
                for a, c in ((1, 1000), (1, 3), (1, 2), (9, 10), (999, 1000), (1, 1)):
                    n = last(begin(red, other), ("needed", k, a, c))[0]
                    self.assertGreaterEqual(likely_at_least(red, other, n, k), Fraction(a, c))
                    self.assertLess(likely_at_least(red, other, n - 1, k), Fraction(a, c))

    def test_just_as_likely_is_enough(self):
        self.assertEqual(
            ask(("begin", 4, 2), ("needed", 1, 1, 2), ("needed", 1, 500, 1000), ("needed", 1, 501, 1000),
                ("needed", 1, 5, 6), ("needed", 1, 834, 1000))[1:],
            [[1], [1], [2], [2], [3]])

    def test_as_likely_as_0_needs_none(self):
        for k in (0, 1, 2, 3, 6, 25, GREATEST):
            for c in (1, 2, 1000):
                self.assertEqual(last(("begin", 5, 2), ("needed", k, 0, c)), [0])
                self.assertEqual(last(("begin", 5, 0), ("needed", k, 0, c)), [0])
                self.assertEqual(last(("begin", 1, 1), ("draw", 1), ("needed", k, 0, c)), [0])

    def test_k_of_0_needs_none(self):
        for a, c in ((0, 1), (1, 1), (1, 2), (999, 1000), (1000, 1000)):
            self.assertEqual(last(("begin", 5, 2), ("needed", 0, a, c)), [0])
            self.assertEqual(last(("begin", 1, 1), ("draw", 1), ("needed", 0, a, c)), [0])

    def test_a_as_c_is_certain(self):
        for red, other in SMALL:
            for k in range(red + 2):
                for c in (1, 2, 999, 1000):
                    self.assertEqual(last(begin(red, other), ("needed", k, c, c)), least_certain(red, other, k))

    def test_not_even_with_all(self):
        for k in (3, 4, 5, 6, 24, 25, GREATEST):
            for a, c in ((1, 1), (1, 1000), (1000, 1000)):
                self.assertEqual(ask(("begin", 5, 2), ("needed", k, a, c), "told")[1:], [[-33], [5, 2, 0, 0]])
        self.assertEqual(last(("begin", 24, 0), ("needed", 1, 1, 1000)), [-33])
        self.assertEqual(last(("begin", 1, 1), ("draw", 1), ("needed", 1, 1, 1000)), [-33])

    def test_of_what_is_left(self):
        self.assertEqual(
            ask(("begin", 5, 2), ("draw", 1), ("needed", 1, 1, 1), ("needed", 2, 1, 9), "back", ("needed", 2, 1, 1))[2:],
            [[4], [-33], [1], [5]])

    def test_c_is_1_to_1000(self):
        self.assertEqual(
            ask(("begin", 5, 2), ("needed", 1, 1, 1), ("needed", 1, 1000, 1000), ("needed", 1, 1, 1000))[1:],
            [[4], [4], [1]])
        for c in (0, 1001, 1002, 65536, GREATEST):
            for a in (0, 1, c, GREATEST):
                for k in (0, 1, 2):
                    self.assertEqual(ask(("begin", 5, 2), ("needed", k, a, c), "told")[1:], [[-22], [5, 2, 0, 0]])

    def test_a_is_not_above_c(self):
        for a, c in ((2, 1), (GREATEST, 1), (501, 500), (1001, 1000), (GREATEST, 1000)):
            for k in (0, 1, 2):
                self.assertEqual(ask(("begin", 5, 2), ("needed", k, a, c), "told")[1:], [[-22], [5, 2, 0, 0]])

    def test_wrong_fraction_goes_ahead_of_not_even_with_all(self):
        for a, c in ((1, 0), (0, 0), (1, 1001), (2, 1), (GREATEST, GREATEST)):
            for k in (3, 25, GREATEST):
                self.assertEqual(last(("begin", 5, 2), ("needed", k, a, c)), [-22])


class Certain(unittest.TestCase):
    def test_over_all_sets(self):
        for red, other in SMALL:
            calls = [("certain", k) for k in range(red + 3)]
            expected = [least_certain(red, other, k) for k in range(red + 3)]
            self.assertEqual(ask(begin(red, other), *calls)[1:], expected)
            self.assertEqual(ask(*leave(red, other), *calls)[-len(calls):], expected)

    def test_of_24_so_many_and_no_fewer(self):
        for red, other in LARGE:
            for k in range(1, red + 1):
                n = last(begin(red, other), ("certain", k))[0]
                given = ask(begin(red, other), ("atleast", n, k), ("atleast", n - 1, k))[1:]
                self.assertEqual(given[0], [0, 1, 1])
                self.assertLess(Fraction(*given[1][1:]), 1)

    def test_k_of_0_needs_none(self):
        for red, other in LARGE:
            self.assertEqual(last(begin(red, other), ("certain", 0)), [0])
        self.assertEqual(last(("begin", 1, 0), ("draw", 0), ("certain", 0)), [0])

    def test_all_red(self):
        self.assertEqual(ask(("begin", 24, 24), ("certain", 1), ("certain", 24)), [[0], [1], [24]])

    def test_fewer_red_left(self):
        for k in (3, 5, 6, 25, GREATEST):
            self.assertEqual(ask(("begin", 5, 2), ("certain", k), "told")[1:], [[-33], [5, 2, 0, 0]])
        self.assertEqual(last(("begin", 24, 0), ("certain", 1)), [-33])
        self.assertEqual(
            ask(("begin", 5, 2), ("draw", 1), ("certain", 2), ("certain", 1), "back", ("certain", 2))[2:],
            [[-33], [4], [1], [5]])


class Kthat(unittest.TestCase):
    def test_over_all_orders(self):
        for red, other in SMALL:
            for k in range(1, red + 1):
                draws = [draw_of_kth(order, k) for order in orders(red, other)]
                for n in range(1, red + other + 1):
                    expected = told(average_of([draw == n for draw in draws]))
                    self.assertEqual(last(begin(red, other), ("kthat", k, n)), expected)
                    self.assertEqual(last(*leave(red, other), ("kthat", k, n)), expected)

    def test_of_24_one_draw_after_another(self):
        for red, other in LARGE:
            for k in range(1, red + 1):
                calls = [("kthat", k, n) for n in range(1, 25)]
                self.assertEqual(
                    ask(begin(red, other), *calls)[1:],
                    [told(likely_kth_at(red, other, k, n)) for n in range(1, 25)])

    def test_k_comes_ahead_of_n(self):
        self.assertEqual(ask(("begin", 5, 2), ("kthat", 1, 4), ("kthat", 2, 5)), [[0], [0, 1, 10], [0, 2, 5]])

    def test_all_red(self):
        self.assertEqual(
            ask(("begin", 24, 24), ("kthat", 7, 7), ("kthat", 7, 8), ("kthat", 24, 24), ("kthat", 24, 23))[1:],
            [[0, 1, 1], [0, 0, 1], [0, 1, 1], [0, 0, 1]])

    def test_one_thing(self):
        self.assertEqual(
            ask(("begin", 1, 1), ("kthat", 1, 1), ("kthat", 1, 0), ("kthat", 1, 2), ("kthat", 2, 1)),
            [[0], [0, 1, 1], [-22], [-22], [-33]])

    def test_n_is_1_to_as_many_as_are_left(self):
        for n in (0, 6, 7, 25, GREATEST):
            for k in (1, 2):
                self.assertEqual(ask(("begin", 5, 2), ("kthat", k, n), "told")[1:], [[-22], [5, 2, 0, 0]])
        self.assertEqual(
            ask(("begin", 5, 2), ("draw", 0), ("kthat", 2, 5), ("kthat", 2, 4))[2:], [[-22], [0, 1, 2]])

    def test_there_is_no_kth(self):
        for k in (0, 3, 5, 6, 25, GREATEST):
            for n in (1, 2, 5):
                self.assertEqual(ask(("begin", 5, 2), ("kthat", k, n), "told")[1:], [[-33], [5, 2, 0, 0]])
        self.assertEqual(last(("begin", 24, 0), ("kthat", 1, 1)), [-33])
        self.assertEqual(
            ask(("begin", 5, 2), ("draw", 1), ("kthat", 2, 3), "back", ("kthat", 2, 3))[2:], [[-33], [1], [0, 1, 5]])

    def test_no_kth_goes_ahead_of_wrong_n(self):
        for k in (0, 3, 25, GREATEST):
            for n in (0, 6, 25, GREATEST):
                self.assertEqual(last(("begin", 5, 2), ("kthat", k, n)), [-33])
        for k in (0, 1):
            for n in (0, 1):
                self.assertEqual(last(("begin", 1, 1), ("draw", 1), ("kthat", k, n)), [-33])


class Kthmean(unittest.TestCase):
    def test_over_all_orders(self):
        for red, other in SMALL:
            for k in range(1, red + 1):
                expected = told(average_of([draw_of_kth(order, k) for order in orders(red, other)]))
                self.assertEqual(last(begin(red, other), ("kthmean", k)), expected)
                self.assertEqual(last(*leave(red, other), ("kthmean", k)), expected)

    def test_of_24_as_kthat_tells(self):
        for red, other in LARGE:
            for k in range(1, red + 1):
                given = ask(begin(red, other), *[("kthat", k, n) for n in range(1, 25)], ("kthmean", k))[1:]
                mean = sum(n * Fraction(*given[n - 1][1:]) for n in range(1, 25))
                self.assertEqual(given[24], told(mean))

    def test_all_red(self):
        for k in range(1, 25):
            self.assertEqual(last(("begin", 24, 24), ("kthmean", k)), [0, k, 1])

    def test_there_is_no_kth(self):
        for k in (0, 3, 5, 6, 25, GREATEST):
            self.assertEqual(ask(("begin", 5, 2), ("kthmean", k), "told")[1:], [[-33], [5, 2, 0, 0]])
        for k in (0, 1, GREATEST):
            self.assertEqual(last(("begin", 24, 0), ("kthmean", k)), [-33])
            self.assertEqual(last(("begin", 1, 1), ("draw", 1), ("kthmean", k)), [-33])
        self.assertEqual(
            ask(("begin", 5, 2), ("draw", 1), ("kthmean", 2), "back", ("kthmean", 2))[2:], [[-33], [1], [0, 4, 1]])


def likeliest_reds(many, n, k):
    """Each number of red ones is tried; all have as many sets of n."""
    sets = [sets_by_enumeration(red, many - red, n)[k] for red in range(many + 1)]
    return sets.index(max(sets))


class Guess(unittest.TestCase):
    def test_over_all_sets(self):
        for many in range(1, 9):
            for n in range(many + 1):
                for k in range(n + 1):
                    expected = [likeliest_reds(many, n, k)]
                    self.assertEqual(last(("begin", many, many // 2), ("guess", n, k)), expected)
                    self.assertEqual(last(*leave(many // 2, many - many // 2), ("guess", n, k)), expected)

    def test_of_24_one_draw_after_another(self):
        for n in range(25):
            for k in range(n + 1):
                chances = [by_drawing(red, 24 - red, n).get(k, 0) for red in range(25)]
                self.assertEqual(last(("begin", 24, 5), ("guess", n, k)), [chances.index(max(chances))])

    def test_whatever_is_red_now(self):
        for red, other in SMALL:
            for n in range(red + other + 1):
                self.assertEqual(
                    last(begin(red, other), ("guess", n, n // 2)), last(begin(0, red + other), ("guess", n, n // 2)))

    def test_of_like_ones_the_least(self):
        self.assertEqual(
            ask(("begin", 5, 2), ("guess", 0, 0), ("guess", 2, 1), ("guess", 3, 1), ("guess", 3, 2))[1:],
            [[0], [2], [1], [3]])
        self.assertEqual(last(("begin", 3, 0), ("guess", 2, 1)), [1])

    def test_none_and_all_red(self):
        for n in range(1, 25):
            self.assertEqual(ask(("begin", 24, 9), ("guess", n, 0), ("guess", n, n))[1:], [[0], [24]])

    def test_all_drawn(self):
        for k in range(25):
            self.assertEqual(last(("begin", 24, 9), ("guess", 24, k)), [k])

    def test_none_left(self):
        self.assertEqual(
            ask(("begin", 1, 1), ("draw", 1), ("guess", 0, 0), ("guess", 0, 1), ("guess", 1, 0), ("guess", 1, 1))[2:],
            [[0], [-22], [-22], [-22]])

    def test_more_than_are_left(self):
        for n in (6, 7, 25, GREATEST):
            for k in (0, 1, n, GREATEST):
                self.assertEqual(ask(("begin", 5, 2), ("guess", n, k), "told")[1:], [[-22], [5, 2, 0, 0]])
        self.assertEqual(ask(("begin", 5, 2), ("draw", 1), ("guess", 5, 1), ("guess", 4, 1))[2:], [[-22], [1]])

    def test_more_red_than_drawn(self):
        for n, k in ((0, 1), (2, 3), (2, 5), (5, 6), (5, GREATEST)):
            self.assertEqual(ask(("begin", 5, 2), ("guess", n, k), "told")[1:], [[-22], [5, 2, 0, 0]])


if __name__ == "__main__":
    unittest.main()
