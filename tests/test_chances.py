import unittest
from fractions import Fraction

from helper import (
    GREATEST, ask, average_of, begin, by_drawing, last, leave, likely_at_least, orders, sets_by_enumeration, told)

SMALL = [(red, other) for red in range(9) for other in range(9 - red) if red + other > 0]
LARGE = [(red, 24 - red) for red in range(25)]
KINDS = ((0, 0), (0, 1), (1, 0), (1, 1))


def chance_of(answer, kind):
    """How likely a red one (1) or another (0) is, by what chance answered."""
    likely = Fraction(*answer[1:])
    return likely if kind == 1 else 1 - likely


class Chance(unittest.TestCase):
    def test_every_number_of_things(self):
        for red in range(25):
            for other in range(25 - red):
                if red + other > 0:
                    self.assertEqual(last(begin(red, other), "chance"), told(Fraction(red, red + other)))

    def test_nothing_in_common(self):
        self.assertEqual(last(("begin", 24, 18), "chance"), [0, 3, 4])
        self.assertEqual(last(("begin", 24, 5), "chance"), [0, 5, 24])

    def test_no_red_ones_and_all_red(self):
        self.assertEqual(last(("begin", 9, 0), "chance"), [0, 0, 1])
        self.assertEqual(last(("begin", 9, 9), "chance"), [0, 1, 1])

    def test_of_what_is_left(self):
        self.assertEqual(
            ask(("begin", 6, 3), ("draw", 0), "chance", ("draw", 1), "chance", "back", "chance", "back", "chance"),
            [[0], [5], [0, 3, 5], [4], [0, 1, 2], [1], [0, 3, 5], [0], [0, 1, 2]])

    def test_none_left(self):
        self.assertEqual(
            ask(("begin", 1, 1), ("draw", 1), "chance", "back", "chance"),
            [[0], [0], [-6], [1], [0, 1, 1]])


class Two(unittest.TestCase):
    def test_over_all_orders(self):
        for red, other in SMALL:
            if red + other in range(2, 7):
                drawn = orders(red, other)
                for i, j in KINDS:
                    expected = told(average_of([order[:2] == (i, j) for order in drawn]))
                    self.assertEqual(last(begin(red, other), ("two", i, j)), expected)
                    self.assertEqual(last(*leave(red, other), ("two", i, j)), expected)

    def test_of_24_as_two_draws(self):
        for red, other in LARGE:
            for i, j in KINDS:
                given = ask(begin(red, other), "chance", ("draw", i), "chance")
                likely = 0
                if given[2] == [23]:
                    likely = chance_of(given[1], i) * chance_of(given[3], j)
                self.assertEqual(last(begin(red, other), ("two", i, j)), told(likely))

    def test_all_together_for_certain(self):
        for red, other in LARGE:
            given = ask(begin(red, other), *[("two", i, j) for i, j in KINDS])[1:]
            self.assertEqual(sum(Fraction(*answer[1:]) for answer in given), 1)

    def test_no_red_ones_and_all_red(self):
        calls = [("two", i, j) for i, j in KINDS]
        self.assertEqual(ask(("begin", 24, 0), *calls)[1:], [[0, 1, 1], [0, 0, 1], [0, 0, 1], [0, 0, 1]])
        self.assertEqual(ask(("begin", 24, 24), *calls)[1:], [[0, 0, 1], [0, 0, 1], [0, 0, 1], [0, 1, 1]])

    def test_one_red_one_does_not_come_twice(self):
        self.assertEqual(last(("begin", 7, 1), ("two", 1, 1)), [0, 0, 1])
        self.assertEqual(last(("begin", 7, 6), ("two", 0, 0)), [0, 0, 1])

    def test_two_left(self):
        self.assertEqual(
            ask(("begin", 2, 1), *[("two", i, j) for i, j in KINDS])[1:],
            [[0, 0, 1], [0, 1, 2], [0, 1, 2], [0, 0, 1]])

    def test_fewer_than_two_left(self):
        for i, j in KINDS:
            self.assertEqual(last(("begin", 1, 1), ("two", i, j)), [-6])
            self.assertEqual(
                ask(("begin", 2, 1), ("draw", 0), ("two", i, j), ("draw", 1), ("two", i, j), "back", "back", "told"),
                [[0], [1], [-6], [0], [-6], [1], [0], [2, 1, 0, 0]])

    def test_kinds_are_0_or_1(self):
        for i, j in ((2, 0), (2, 1), (0, 2), (1, 2), (2, 2), (0, GREATEST), (GREATEST, 1), (GREATEST, GREATEST)):
            self.assertEqual(ask(("begin", 5, 2), ("two", i, j), "told"), [[0], [-22], [5, 2, 0, 0]])

    def test_wrong_kind_goes_ahead_of_too_few_left(self):
        for i, j in ((2, 0), (0, 2), (GREATEST, GREATEST)):
            self.assertEqual(
                ask(("begin", 1, 1), ("two", i, j), ("draw", 1), ("two", i, j)), [[0], [-22], [0], [-22]])


class Just(unittest.TestCase):
    def test_over_all_sets(self):
        for red, other in SMALL:
            for n in range(red + other + 1):
                sets = sets_by_enumeration(red, other, n)
                for k in range(n + 1):
                    self.assertEqual(
                        last(begin(red, other), ("just", n, k)), told(Fraction(sets[k], sum(sets))))

    def test_of_24_one_draw_after_another(self):
        for red, other in LARGE:
            for n in range(25):
                chances = by_drawing(red, other, n)
                calls = [begin(red, other)] + [("just", n, k) for k in range(n + 2)]
                self.assertEqual(ask(*calls)[1:], [told(chances.get(k, 0)) for k in range(n + 2)])

    def test_draws_and_reds_may_change_places(self):
        for red in range(13):
            for n in range(13):
                for k in range(5):
                    self.assertEqual(
                        last(("begin", 12, red), ("just", n, k)), last(("begin", 12, n), ("just", red, k)))

    def test_of_what_is_left(self):
        for red, other in SMALL:
            n = (red + other + 1) // 2
            sets = sets_by_enumeration(red, other, n)
            for k in range(n + 1):
                self.assertEqual(last(*leave(red, other), ("just", n, k)), told(Fraction(sets[k], sum(sets))))

    def test_k_of_0(self):
        self.assertEqual(last(("begin", 5, 2), ("just", 0, 0)), [0, 1, 1])
        self.assertEqual(last(("begin", 5, 2), ("just", 0, 1)), [0, 0, 1])
        self.assertEqual(last(("begin", 5, 2), ("just", 3, 0)), [0, 1, 10])

    def test_none_of_none_left(self):
        self.assertEqual(
            ask(("begin", 1, 0), ("draw", 0), ("just", 0, 0), ("just", 0, 1), ("just", 1, 0)),
            [[0], [0], [0, 1, 1], [0, 0, 1], [-22]])

    def test_more_red_asked_for_than_there_are(self):
        for k in (3, 4, 5, 6, 24, 25, GREATEST):
            self.assertEqual(last(("begin", 5, 2), ("just", 4, k)), [0, 0, 1])

    def test_fewer_red_asked_for_than_must_be(self):
        self.assertEqual(last(("begin", 5, 4), ("just", 3, 1)), [0, 0, 1])
        self.assertEqual(last(("begin", 5, 5), ("just", 3, 0)), [0, 0, 1])

    def test_no_red_ones_and_all_red(self):
        self.assertEqual(last(("begin", 24, 0), ("just", 24, 0)), [0, 1, 1])
        self.assertEqual(last(("begin", 24, 0), ("just", 1, 1)), [0, 0, 1])
        self.assertEqual(last(("begin", 24, 24), ("just", 24, 24)), [0, 1, 1])
        self.assertEqual(last(("begin", 24, 24), ("just", 7, 6)), [0, 0, 1])


class AllOf(unittest.TestCase):
    def test_over_all_sets(self):
        for red, other in SMALL:
            for n in range(red + other + 1):
                sets = sets_by_enumeration(red, other, n)
                self.assertEqual(last(begin(red, other), ("all_of", n)), [n + 1] + sets)
                self.assertEqual(last(*leave(red, other), ("all_of", n)), [n + 1] + sets)

    def test_of_24_over_all_sets(self):
        for red, n in ((10, 5), (3, 4), (0, 3), (24, 3), (12, 20), (23, 24)):
            self.assertEqual(
                last(("begin", 24, red), ("all_of", n)), [n + 1] + sets_by_enumeration(red, 24 - red, n))

    def test_all_together_for_certain(self):
        for red, other in LARGE:
            for n in range(25):
                numbers = last(begin(red, other), ("all_of", n))[1:]
                without_reds = last(("begin", 24, 0), ("all_of", n))[1]
                self.assertEqual(sum(numbers), without_reds)

    def test_half_of_24(self):
        numbers = last(("begin", 24, 12), ("all_of", 12))
        self.assertEqual(numbers[0], 13)
        self.assertEqual(numbers[1:4], [1, 144, 4356])
        self.assertEqual(numbers[7], 853776)
        self.assertEqual(sum(numbers[1:]), 2704156)

    def test_none_drawn_and_none_left(self):
        self.assertEqual(last(("begin", 5, 2), ("all_of", 0)), [1, 1])
        self.assertEqual(last(("begin", 1, 1), ("draw", 1), ("all_of", 0)), [1, 1])


class Likeliest(unittest.TestCase):
    def test_over_all_sets(self):
        for red, other in SMALL:
            for n in range(red + other + 1):
                sets = sets_by_enumeration(red, other, n)
                self.assertEqual(last(begin(red, other), ("likeliest", n)), [sets.index(max(sets))])
                self.assertEqual(last(*leave(red, other), ("likeliest", n)), [sets.index(max(sets))])

    def test_of_24(self):
        for red, other in LARGE:
            for n in range(25):
                chances = by_drawing(red, other, n)
                greatest = max(chances.values())
                least = min(k for k in chances if chances[k] == greatest)
                self.assertEqual(last(begin(red, other), ("likeliest", n)), [least])

    def test_of_like_ones_the_least(self):
        self.assertEqual(last(("begin", 2, 1), ("likeliest", 1)), [0])
        self.assertEqual(last(("begin", 6, 3), ("likeliest", 3)), [1])
        self.assertEqual(last(("begin", 24, 12), ("likeliest", 23)), [11])

    def test_no_red_ones_and_all_red(self):
        self.assertEqual(last(("begin", 24, 0), ("likeliest", 24)), [0])
        self.assertEqual(last(("begin", 24, 24), ("likeliest", 24)), [24])
        self.assertEqual(last(("begin", 24, 24), ("likeliest", 0)), [0])

    def test_none_left(self):
        self.assertEqual(last(("begin", 1, 1), ("draw", 1), ("likeliest", 0)), [0])


class AtLeast(unittest.TestCase):
    def test_over_all_sets(self):
        for red, other in SMALL:
            for n in range(red + other + 1):
                sets = sets_by_enumeration(red, other, n)
                for k in range(n + 2):
                    expected = told(Fraction(sum(sets[k:]), sum(sets)))
                    self.assertEqual(last(begin(red, other), ("atleast", n, k)), expected)
                    self.assertEqual(last(*leave(red, other), ("atleast", n, k)), expected)

    def test_of_24_one_draw_after_another(self):
        for red, other in LARGE:
            for n in range(25):
                calls = [begin(red, other)] + [("atleast", n, k) for k in range(n + 2)]
                self.assertEqual(
                    ask(*calls)[1:], [told(likely_at_least(red, other, n, k)) for k in range(n + 2)])

    def test_just_that_many_or_at_least_one_more(self):
        for red in range(13):
            for n in range(13):
                for k in range(n + 1):
                    given = ask(("begin", 12, red), ("just", n, k), ("atleast", n, k), ("atleast", n, k + 1))[1:]
                    just, these, more = [Fraction(*answer[1:]) for answer in given]
                    self.assertEqual(these, just + more)

    def test_k_of_0_is_certain(self):
        for n in range(6):
            self.assertEqual(last(("begin", 5, 2), ("atleast", n, 0)), [0, 1, 1])
        self.assertEqual(last(("begin", 1, 0), ("draw", 0), ("atleast", 0, 0)), [0, 1, 1])

    def test_more_red_asked_for_than_there_are(self):
        for k in (3, 4, 5, 6, 24, 25, GREATEST):
            self.assertEqual(last(("begin", 5, 2), ("atleast", 4, k)), [0, 0, 1])
        self.assertEqual(last(("begin", 1, 1), ("draw", 1), ("atleast", 0, 1)), [0, 0, 1])

    def test_as_many_as_must_be(self):
        self.assertEqual(last(("begin", 5, 4), ("atleast", 3, 2)), [0, 1, 1])
        self.assertEqual(last(("begin", 5, 4), ("atleast", 3, 3)), [0, 2, 5])

    def test_no_red_ones_and_all_red(self):
        self.assertEqual(last(("begin", 24, 0), ("atleast", 24, 1)), [0, 0, 1])
        self.assertEqual(last(("begin", 24, 24), ("atleast", 7, 7)), [0, 1, 1])
        self.assertEqual(last(("begin", 24, 24), ("atleast", 7, 8)), [0, 0, 1])


class MoreThanAreLeft(unittest.TestCase):
    def test_of_all_things(self):
        for m in (1, 2, 5, 24):
            for n in (m + 1, m + 2, 100, GREATEST):
                self.assertEqual(
                    ask(("begin", m, 1), ("just", n, 0), ("just", n, GREATEST), ("all_of", n), ("likeliest", n),
                        ("atleast", n, 0), ("atleast", n, 1), ("atleast", n, GREATEST)),
                    [[0]] + [[-22]] * 7)

    def test_of_those_left_after_draws(self):
        self.assertEqual(
            ask(("begin", 3, 2), ("draw", 1), ("just", 3, 1), ("all_of", 3), ("likeliest", 3), ("atleast", 3, 0),
                ("just", 2, 1), ("all_of", 2), ("likeliest", 2), ("atleast", 1, 1)),
            [[0], [2], [-22], [-22], [-22], [-22], [0, 1, 1], [3, 0, 1, 0], [1], [0, 1, 2]])

    def test_none_left(self):
        self.assertEqual(
            ask(("begin", 1, 1), ("draw", 1), ("just", 1, 1), ("all_of", 1), ("likeliest", 1), ("atleast", 1, 0),
                "back", "chance"),
            [[0], [0], [-22], [-22], [-22], [-22], [1], [0, 1, 1]])


if __name__ == "__main__":
    unittest.main()
