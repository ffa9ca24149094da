import random
import unittest
from itertools import product

from helper import COUNTS, GREATEST, NUMBERS, Model, ask, cut, line
from redthings.drawing import answers

ELSE = (
    ("draw", 0), ("draw", 1), ("draw", 2), ("draw", GREATEST), ("back",), ("chance",),
    ("just", 0, 0), ("just", GREATEST, GREATEST), ("all_of", 0), ("all_of", GREATEST),
    ("likeliest", 0), ("likeliest", 25), ("mean", 0), ("mean", 25), ("spread", 0), ("spread", 25),
    ("spreadback", 0), ("spreadback", 25), ("atleast", 0, 0), ("atleast", GREATEST, GREATEST),
    ("needed", 0, 0, 1), ("needed", GREATEST, GREATEST, GREATEST), ("kthat", 1, 1), ("kthat", GREATEST, GREATEST),
    ("kthmean", 1), ("kthmean", GREATEST), ("two", 0, 0), ("two", GREATEST, GREATEST), ("swapped", 0, 0),
    ("swapped", GREATEST, GREATEST), ("guess", 0, 0), ("guess", GREATEST, GREATEST), ("certain", 0),
    ("certain", GREATEST), ("told",),
)


class Watched(list):
    """A list that can't be changed, not for a while either."""

    def refuse(self, *arguments, **named):
        raise AssertionError("the list that was handed in is changed")

    append = clear = extend = insert = pop = remove = reverse = sort = refuse
    __setitem__ = __delitem__ = __iadd__ = __imul__ = refuse


class BeforeABegin(unittest.TestCase):
    def test_all_else_is_refused(self):
        for call in ELSE:
            self.assertEqual(ask(call), [[-11]])

    def test_calls_behind_a_refused_one_are_found(self):
        self.assertEqual(ask(*ELSE, ("begin", 2, 1), "chance"), [[-11]] * len(ELSE) + [[0], [0, 1, 2]])

    def test_a_refused_begin_is_none(self):
        for m, r in ((0, 0), (25, 1), (3, 4), (GREATEST, 0)):
            for call in ELSE:
                self.assertEqual(ask(("begin", m, r), call), [[-22], [-11]])

    def test_refused_calls_ahead_of_it_change_nothing(self):
        self.assertEqual(
            ask(("draw", 1), "back", ("begin", 3, 1), "back", ("all_of", 1)), [[-11], [-11], [0], [-12], [2, 2, 1]])


class Layout(unittest.TestCase):
    def test_number_by_number(self):
        calls = [3, 0, 5, 2, 3, 4, 2, 1, 5, 2, 6, 2, 7, 2, 8, 2, 9, 2, 1, 1, 2, 2]
        self.assertEqual(answers(calls), [
            1, -11,
            1, 0,
            3, 0, 2, 5,
            3, 0, 3, 5,
            4, 3, 3, 6, 1,
            1, 1,
            3, 0, 4, 5,
            3, 0, 9, 25,
            3, 0, 12, 25,
            1, 4,
            1, 1,
            1, -12,
        ])

    def test_number_by_number_of_the_other_nine(self):
        calls = [18, 0, 5, 2, 10, 3, 1, 11, 1, 2, 3, 12, 2, 3, 13, 2, 14, 1, 0, 15, 3, 1, 16, 3, 1, 17, 2, 1, 0, 18]
        self.assertEqual(answers(calls), [
            1, -11,
            1, 0,
            3, 0, 9, 10,
            1, 2,
            3, 0, 1, 5,
            3, 0, 4, 1,
            3, 0, 3, 10,
            3, 0, 3, 5,
            1, 1,
            1, 5,
            1, 4,
            4, 5, 2, 1, 0,
        ])

    def test_each_number_and_how_many_arguments_stand_behind_it(self):
        for name, number in NUMBERS.items():
            calls = [number] + [GREATEST] * COUNTS[name] + [0, 3, 1, 3]
            refused = -22 if name == "begin" else -11
            self.assertEqual(answers(calls), [1, refused, 1, 0, 3, 0, 1, 3])

    def test_one_call(self):
        self.assertEqual(answers([0, 24, 24]), [1, 0])
        self.assertEqual(answers([2]), [1, -11])

    def test_80_calls(self):
        calls = [("begin", 24, 12)] + [("just", 24, 12), ("all_of", 24), ("draw", 1), "back"] * 19 + ["chance"] * 3
        self.assertEqual(len(calls), 80)
        whole = [25] + [0] * 12 + [1] + [0] * 12
        self.assertEqual(ask(*calls), [[0]] + [[0, 1, 1], whole, [23], [1]] * 19 + [[0, 1, 2]] * 3)

    def test_80_calls_with_the_greatest_numbers(self):
        calls = [("begin", 24, 7)] + [("begin", GREATEST, GREATEST), ("just", GREATEST, GREATEST)] * 39 + ["chance"]
        self.assertEqual(ask(*calls), [[0]] + [[-22]] * 78 + [[0, 7, 24]])

    def test_80_calls_that_need_most_numbers(self):
        # Of 24 things 7 may be taken in 346104 ways, of 11 in 330, of 12 in 792.
        calls = [("begin", 24, 7)] + [("needed", 7, 1, 1000)] * 79
        self.assertEqual(len(line(*calls)), 319)
        self.assertEqual(ask(*calls), [[0]] + [[12]] * 79)

    def test_only_the_first_number_is_below_0(self):
        for call in ELSE:
            given = ask(("begin", 24, 7), call)[1]
            self.assertTrue(given[0] >= 0 or len(given) == 1)
            self.assertTrue(all(number >= 0 for number in given[1:]))


class NothingKept(unittest.TestCase):
    def test_the_list_stays_as_it_was(self):
        calls = line(*ELSE, ("begin", 6, 3), *ELSE, ("begin", 2, 2), ("draw", 1), "back")
        before = list(calls)
        answers(calls)
        self.assertEqual(calls, before)

    def test_the_list_is_not_changed_for_a_while_either(self):
        calls = line(*ELSE, ("begin", 6, 3), *ELSE, ("begin", 2, 2), ("draw", 1), "back")
        self.assertEqual(answers(Watched(calls)), answers(calls))

    def test_a_second_time_is_like_the_first(self):
        calls = line("chance", "back", ("begin", 6, 3), ("draw", 1), ("draw", 0), ("all_of", 4), "back")
        first = answers(calls)
        self.assertEqual(answers(calls), first)
        self.assertEqual(cut(first), [[-11], [-11], [0], [5], [4], [5, 0, 0, 1, 0, 0], [0]])

    def test_an_earlier_begin_is_not_kept(self):
        answers(line(("begin", 6, 3), ("draw", 1)))
        self.assertEqual(ask("chance", "back", ("begin", 4, 1), "back"), [[-11], [-11], [0], [-12]])

    def test_what_was_given_back_may_be_changed(self):
        calls = line(("begin", 6, 3), ("all_of", 4), ("begin", 0, 0), "back")
        first = answers(calls)
        kept = list(first)
        first.clear()
        self.assertEqual(answers(calls), kept)


def states():
    """Calls that leave all, some, one or none, red ones or others or both."""
    return (
        [("begin", 1, 0)], [("begin", 1, 1)], [("begin", 2, 1)], [("begin", 5, 2)], [("begin", 24, 0)],
        [("begin", 24, 24)], [("begin", 24, 9)], [("begin", 1, 0), ("draw", 0)], [("begin", 2, 2)] + [("draw", 1)] * 2,
        [("begin", 24, 9)] + [("draw", 1)] * 8 + [("draw", 0)] * 14, [("begin", 6, 3)] + [("draw", 1)] * 3,
        [("begin", 6, 3)] + [("draw", 0)] * 3, [("begin", 6, 3), ("draw", 1), ("draw", 0), ("back",)],
    )


class EveryArgument(unittest.TestCase):
    NUMBERS_TO_TRY = (0, 1, 2, 3, 5, 6, 23, 24, 25, 999, 1000, 1001, 65536, GREATEST - 1, GREATEST)

    def test_against_the_model(self):
        for name, count in COUNTS.items():
            for state in states():
                for given in product(self.NUMBERS_TO_TRY, repeat=count):
                    calls = state + [(name, *given), ("told",)]
                    model = Model()
                    self.assertEqual(ask(*calls), [model.answer(call) for call in calls], calls)


def some_number(source, most):
    if source.random() < 0.2:
        return source.choice((2, 25, GREATEST))
    return source.randint(0, most)


def some_call(source):
    name = source.choice(tuple(NUMBERS) + ("draw", "draw", "draw", "draw", "back", "back"))
    if name == "begin" and source.random() < 0.5:
        return (name, 24, source.randint(0, 24))
    if name in ("draw", "two"):
        return (name, *[some_number(source, 1) for place in range(COUNTS[name])])
    if name == "needed" and source.random() < 0.7:
        below = source.choice((1, 2, 3, 10, 1000))
        return (name, source.randint(0, 6), source.randint(0, below), below)
    return (name, *[some_number(source, 9) for place in range(COUNTS[name])])


def some_call_named(source, name):
    if name == "needed":
        return (name, source.randint(0, 4), source.randint(0, 1000), 1000)
    if name in ("draw", "two"):
        return (name, *[source.randint(0, 1) for place in range(COUNTS[name])])
    return (name, *[source.randint(0, 5) for place in range(COUNTS[name])])


class LongLines(unittest.TestCase):
    def test_lines_of_80_calls_against_the_model(self):
        source = random.Random(5)
        for turn in range(300):
            start = [("begin", 24, source.randint(0, 24))] if turn % 2 else []
            calls = start + [some_call(source) for step in range(80 - len(start))]
            model = Model()
            self.assertEqual(ask(*calls), [model.answer(call) for call in calls])

    def test_all_nineteen_kinds_in_each_line(self):
        source = random.Random(6)
        for turn in range(100):
            begun = [("begin", 24, source.randint(6, 18))] + [("draw", source.randint(0, 1)) for step in range(4)]
            calls = [some_call_named(source, name) for name in NUMBERS if name != "begin"] * 4
            source.shuffle(calls)
            calls = begun + calls + [("told",), ("begin", 3, 1), ("told",)]
            self.assertEqual(len(calls), 80)
            self.assertLessEqual(len(line(*calls)), 330)
            model = Model()
            before = line(*calls)
            handed_in = list(before)
            first = answers(handed_in)
            self.assertEqual(cut(first), [model.answer(call) for call in calls])
            self.assertEqual(handed_in, before)
            self.assertEqual(answers(handed_in), first)


if __name__ == "__main__":
    unittest.main()
