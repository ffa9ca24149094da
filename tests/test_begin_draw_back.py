import unittest

from helper import GREATEST, ask, last


class Begin(unittest.TestCase):
    def test_every_size_and_every_number_of_reds(self):
        for m in range(1, 25):
            for r in range(m + 1):
                self.assertEqual(ask(("begin", m, r), ("all_of", 1)), [[0], [2, m - r, r]])

    def test_size_is_1_to_24(self):
        for m in (0, 25, 26, 255, GREATEST):
            self.assertEqual(ask(("begin", m, 0), "chance"), [[-22], [-11]])

    def test_no_more_red_than_things(self):
        for m, r in ((1, 2), (5, 6), (24, 25), (24, GREATEST)):
            self.assertEqual(ask(("begin", m, r), "chance"), [[-22], [-11]])

    def test_size_and_reds_both_wrong(self):
        for m, r in ((0, 1), (25, 26), (0, GREATEST), (GREATEST, GREATEST)):
            self.assertEqual(ask(("begin", m, r)), [[-22]])

    def test_it_may_come_again(self):
        self.assertEqual(
            ask(("begin", 5, 2), ("begin", 3, 3), "chance", ("begin", 4, 1), "chance"),
            [[0], [0], [0, 1, 1], [0], [0, 1, 4]])

    def test_it_may_come_again_after_draws(self):
        self.assertEqual(
            ask(("begin", 5, 2), ("draw", 1), ("draw", 0), ("begin", 5, 2), "back", ("all_of", 1), ("draw", 0)),
            [[0], [4], [3], [0], [-12], [2, 3, 2], [4]])

    def test_it_may_come_again_when_none_are_left(self):
        self.assertEqual(
            ask(("begin", 1, 1), ("draw", 1), "chance", ("begin", 2, 0), "chance"),
            [[0], [0], [-6], [0], [0, 0, 1]])

    def test_a_refused_one_leaves_things_and_draws_as_they_were(self):
        for m, r in ((0, 0), (25, 3), (3, 4), (GREATEST, GREATEST)):
            self.assertEqual(
                ask(("begin", 5, 2), ("draw", 1), ("begin", m, r), ("all_of", 1), "back", ("all_of", 1), "back"),
                [[0], [4], [-22], [2, 3, 1], [1], [2, 3, 2], [-12]])


class Draw(unittest.TestCase):
    def test_tells_how_many_are_left(self):
        self.assertEqual(
            ask(("begin", 4, 2), ("draw", 1), ("draw", 0), ("draw", 0), ("draw", 1)),
            [[0], [3], [2], [1], [0]])

    def test_takes_a_red_one_or_another(self):
        self.assertEqual(
            ask(("begin", 7, 3), ("draw", 1), ("all_of", 1), ("draw", 0), ("all_of", 1), ("draw", 0), ("all_of", 1)),
            [[0], [6], [2, 4, 2], [5], [2, 3, 2], [4], [2, 2, 2]])

    def test_all_24(self):
        calls = [("begin", 24, 11)] + [("draw", 1)] * 11 + [("draw", 0)] * 13
        self.assertEqual(ask(*calls), [[0]] + [[left] for left in range(23, -1, -1)])

    def test_kind_is_0_or_1(self):
        for c in (2, 3, 255, GREATEST):
            self.assertEqual(ask(("begin", 5, 2), ("draw", c), ("all_of", 5)), [[0], [-22], last_of_five()])

    def test_none_left(self):
        for r in (0, 1):
            self.assertEqual(
                ask(("begin", 1, r), ("draw", r), ("draw", 0), ("draw", 1), "back", ("all_of", 1)),
                [[0], [0], [-6], [-6], [r], [2, 1 - r, r]])

    def test_no_such_left(self):
        self.assertEqual(
            ask(("begin", 3, 1), ("draw", 1), ("draw", 1), ("all_of", 1), "back", "back"),
            [[0], [2], [-33], [2, 2, 0], [1], [-12]])
        self.assertEqual(
            ask(("begin", 3, 2), ("draw", 0), ("draw", 0), ("all_of", 1), "back", "back"),
            [[0], [2], [-33], [2, 0, 2], [0], [-12]])

    def test_no_red_ones_and_all_red(self):
        self.assertEqual(ask(("begin", 24, 0), ("draw", 1), ("draw", 0)), [[0], [-33], [23]])
        self.assertEqual(ask(("begin", 24, 24), ("draw", 0), ("draw", 1)), [[0], [-33], [23]])

    def test_wrong_kind_goes_ahead_of_none_left(self):
        self.assertEqual(ask(("begin", 1, 0), ("draw", 0), ("draw", 2), ("draw", GREATEST)), [[0], [0], [-22], [-22]])

    def test_none_left_goes_ahead_of_no_such_left(self):
        self.assertEqual(last(("begin", 2, 0), ("draw", 0), ("draw", 0), ("draw", 1)), [-6])
        self.assertEqual(last(("begin", 2, 2), ("draw", 1), ("draw", 1), ("draw", 0)), [-6])


def last_of_five():
    # 5 things with 2 red ones, all taken: only one set, and it has both.
    return [6, 0, 0, 1, 0, 0, 0]


class Back(unittest.TestCase):
    def test_the_last_drawn_comes_back_first(self):
        self.assertEqual(
            ask(("begin", 6, 3), ("draw", 1), ("draw", 0), ("draw", 0), ("draw", 1), "back", "back", "back", "back"),
            [[0], [5], [4], [3], [2], [1], [0], [0], [1]])

    def test_it_is_left_again(self):
        self.assertEqual(
            ask(("begin", 5, 2), ("draw", 1), "back", ("all_of", 1), ("draw", 0), "back", ("all_of", 1)),
            [[0], [4], [1], [2, 3, 2], [4], [0], [2, 3, 2]])

    def test_all_drawn_and_all_put_back(self):
        kinds = [1, 0, 0, 1, 1, 1, 0, 1, 0, 0, 1, 0] * 2
        calls = [("begin", 24, 12)] + [("draw", c) for c in kinds] + ["back"] * 24 + ["back", "chance"]
        given = ask(*calls)
        self.assertEqual(given[25:49], [[c] for c in reversed(kinds)])
        self.assertEqual(given[49:], [[-12], [0, 1, 2]])

    def test_none_drawn(self):
        self.assertEqual(ask(("begin", 5, 2), "back", ("all_of", 1)), [[0], [-12], [2, 3, 2]])

    def test_none_drawn_any_more(self):
        self.assertEqual(
            ask(("begin", 1, 1), ("draw", 1), "back", "back", "chance"),
            [[0], [0], [1], [-12], [0, 1, 1]])

    def test_a_refused_draw_is_not_put_back(self):
        self.assertEqual(
            ask(("begin", 2, 1), ("draw", 0), ("draw", 0), ("draw", 2), "back", "back"),
            [[0], [1], [-33], [-22], [0], [-12]])


class Told(unittest.TestCase):
    def test_every_size_and_every_number_of_reds(self):
        for m in range(1, 25):
            for r in range(m + 1):
                self.assertEqual(ask(("begin", m, r), "told"), [[0], [m, r, 0, 0]])

    def test_after_each_draw(self):
        self.assertEqual(
            ask(("begin", 5, 2), ("draw", 0), "told", ("draw", 1), "told", ("draw", 0), "told", ("draw", 1), "told",
                ("draw", 0), "told")[2::2],
            [[5, 2, 1, 0], [5, 2, 2, 1], [5, 2, 3, 1], [5, 2, 4, 2], [5, 2, 5, 2]])

    def test_after_draws_put_back(self):
        self.assertEqual(
            ask(("begin", 5, 2), ("draw", 0), ("draw", 1), ("draw", 0), "back", "told", "back", "told", "back", "told",
                "back", "told")[5::2],
            [[5, 2, 2, 1], [5, 2, 1, 0], [5, 2, 0, 0], [5, 2, 0, 0]])

    def test_no_red_ones_and_all_red(self):
        self.assertEqual(
            ask(("begin", 24, 0), *[("draw", 0)] * 24, "told", "back", "told")[25:],
            [[24, 0, 24, 0], [0], [24, 0, 23, 0]])
        self.assertEqual(
            ask(("begin", 24, 24), *[("draw", 1)] * 24, "told", "back", "told")[25:],
            [[24, 24, 24, 24], [1], [24, 24, 23, 23]])

    def test_one_thing(self):
        for r in (0, 1):
            self.assertEqual(
                ask(("begin", 1, r), "told", ("draw", r), "told", "back", "told"),
                [[0], [1, r, 0, 0], [0], [1, r, 1, r], [r], [1, r, 0, 0]])

    def test_after_another_begin(self):
        self.assertEqual(
            ask(("begin", 5, 2), ("draw", 1), ("begin", 7, 4), "told"), [[0], [4], [0], [7, 4, 0, 0]])

    def test_refused_calls_change_nothing(self):
        refused = (
            ("begin", 0, 0), ("begin", 25, 1), ("begin", 3, 4), ("draw", 2), ("draw", 1), ("just", 4, 0),
            ("all_of", 4), ("likeliest", 4), ("mean", 4), ("spread", 4), ("spreadback", 4), ("atleast", 4, 0),
            ("needed", 1, 1, 1), ("needed", 0, 1, 0), ("kthat", 1, 1), ("kthmean", 1), ("two", 2, 0),
            ("swapped", 4, 0), ("guess", 4, 0), ("guess", 1, 2), ("certain", 1))
        for call in refused:
            given = ask(("begin", 5, 2), ("draw", 1), ("draw", 1), call, "told", ("all_of", 1), "back", "back", "back")
            self.assertLess(given[3][0], 0)
            self.assertEqual(given[4:], [[5, 2, 2, 2], [2, 3, 0], [1], [1], [-12]])

    def test_questions_change_nothing(self):
        questions = (
            "chance", ("just", 2, 1), ("all_of", 3), ("likeliest", 2), ("mean", 2), ("spread", 2), ("spreadback", 2),
            ("atleast", 2, 1), ("needed", 1, 1, 2), ("kthat", 1, 2), ("kthmean", 1), ("two", 0, 1), ("swapped", 2, 1),
            ("guess", 2, 1), ("certain", 1), "told")
        for call in questions:
            given = ask(("begin", 6, 3), ("draw", 1), ("draw", 0), call, "told", ("all_of", 1), "back", "back", "back")
            self.assertGreaterEqual(given[3][0], 0)
            self.assertEqual(given[4:], [[6, 3, 2, 1], [2, 2, 2], [0], [1], [-12]])


if __name__ == "__main__":
    unittest.main()
