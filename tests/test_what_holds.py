"""What the document says holds, over the whole program, asked of the answers themselves."""

import random
import unittest
from fractions import Fraction

from helper import ask, begin, last, told

SIZES = [(red, many - red) for many in (1, 2, 3, 4, 5, 6, 7, 11, 16, 23, 24) for red in range(many + 1)]


def value(answer):
    if answer[0] != 0 or len(answer) != 3:
        raise AssertionError(f"not a fraction: {answer}")
    return Fraction(answer[1], answer[2])


def values(*calls):
    return [value(answer) for answer in ask(*calls)[1:]]


class WhatHolds(unittest.TestCase):
    def test_draws_and_reds_may_change_places(self):
        for red, other in SIZES:
            many = red + other
            for n in range(many + 1):
                for k in range(min(n, red) + 2):
                    here = ask(begin(red, other), ("just", n, k), ("swapped", n, k))
                    there = ask(begin(n, many - n), ("just", red, k), ("swapped", red, k))
                    self.assertEqual(here[1], here[2])
                    self.assertEqual(here[1:], there[1:])

    def test_so_likely_it_is_over_all_sets(self):
        for red, other in SIZES:
            for n in range(red + other + 1):
                sets = last(begin(red, other), ("all_of", n))[1:]
                calls = [("just", n, k) for k in range(n + 1)] + [("atleast", n, k) for k in range(n + 1)]
                given = ask(begin(red, other), *calls)[1:]
                self.assertEqual(given[:n + 1], [told(Fraction(number, sum(sets))) for number in sets])
                self.assertEqual(given[n + 1:], [told(Fraction(sum(sets[k:]), sum(sets))) for k in range(n + 1)])

    def test_all_together_for_certain(self):
        for red, other in SIZES:
            for n in range(red + other + 1):
                for name in ("just", "swapped"):
                    self.assertEqual(sum(values(begin(red, other), *[(name, n, k) for k in range(n + 1)])), 1)
            if red + other > 1:
                kinds = [("two", i, j) for i in (0, 1) for j in (0, 1)]
                self.assertEqual(sum(values(begin(red, other), *kinds)), 1)

    def test_on_the_average_as_told(self):
        for red, other in SIZES:
            for n in range(red + other + 1):
                likely = values(begin(red, other), *[("just", n, k) for k in range(n + 1)])
                self.assertEqual(
                    last(begin(red, other), ("mean", n)), told(sum(k * part for k, part in enumerate(likely))))

    def test_nearer_together_than_with_putting_back(self):
        for red, other in SIZES:
            for n in range(red + other + 1):
                if red + other > 1:
                    without, putting_back = values(begin(red, other), ("spread", n), ("spreadback", n))
                    self.assertLessEqual(without, putting_back)
                    if red > 0 and other > 0 and n > 1:
                        self.assertLess(without, putting_back)

    def test_so_many_are_needed_and_no_fewer(self):
        for red, other in SIZES:
            for k in range(1, red + 1):
                for a, c in ((1, 1000), (1, 2), (2, 3), (1000, 1000)):
                    n = last(begin(red, other), ("needed", k, a, c))[0]
                    enough, fewer = values(begin(red, other), ("atleast", n, k), ("atleast", n - 1, k))
                    self.assertGreaterEqual(enough, Fraction(a, c))
                    self.assertLess(fewer, Fraction(a, c))

    def test_what_is_needed_for_certain(self):
        for red, other in SIZES:
            for k in range(red + 3):
                certain, needed = ask(begin(red, other), ("certain", k), ("needed", k, 7, 7))[1:]
                self.assertEqual(certain, needed)

    def test_the_kth_red_comes_with_some_draw(self):
        for red, other in SIZES:
            for k in range(1, red + 1):
                likely = values(begin(red, other), *[("kthat", k, n) for n in range(1, red + other + 1)])
                self.assertEqual(sum(likely), 1)
                self.assertEqual(
                    last(begin(red, other), ("kthmean", k)),
                    told(sum(n * part for n, part in enumerate(likely, start=1))))

    def test_the_kth_has_come_where_there_are_k_or_more(self):
        for red, other in SIZES:
            for k in range(1, red + 1):
                calls = [("kthat", k, n) for n in range(1, red + other + 1)]
                come = 0
                for n, part in enumerate(values(begin(red, other), *calls), start=1):
                    come += part
                    self.assertEqual(last(begin(red, other), ("atleast", n, k)), told(come))

    def test_what_was_drawn_is_what_was_drawn(self):
        source = random.Random(11)
        for turn in range(200):
            many = source.randint(1, 24)
            red = source.randint(0, many)
            kept = []
            calls = []
            for step in range(39):
                calls += [source.choice((("draw", 0), ("draw", 1), ("draw", 1), "back")), "told"]
            given = ask(begin(red, many - red), *calls)[1:]
            for call, answer, drawn in zip(calls[::2], given[::2], given[1::2]):
                if call == "back" and answer[0] >= 0:
                    self.assertEqual(answer, [kept.pop()])
                elif answer[0] >= 0:
                    kept.append(call[1])
                    self.assertEqual(answer, [many - len(kept)])
                self.assertEqual(drawn, [many, red, len(kept), sum(kept)])
                self.assertLessEqual(drawn[2], many)
                self.assertLessEqual(drawn[3], red)
                self.assertLessEqual(drawn[2] - drawn[3], many - red)


if __name__ == "__main__":
    unittest.main()
