"""What the tests share: asking by names, and the answers worked out in other ways."""

from fractions import Fraction
from itertools import combinations

from redthings.drawing import answers

GREATEST = 4294967295

NUMBERS = {
    "begin": 0, "draw": 1, "back": 2, "chance": 3, "just": 4,
    "all_of": 5, "likeliest": 6, "mean": 7, "spread": 8, "spreadback": 9,
}


def line(*calls):
    """One list of numbers from calls such as ("begin", 5, 2) or "back"."""
    numbers = []
    for call in calls:
        if isinstance(call, str):
            call = (call,)
        numbers.append(NUMBERS[call[0]])
        numbers.extend(call[1:])
    return numbers


def cut(given):
    """The answers one by one; each must have just as many numbers as it tells."""
    parts = []
    place = 0
    while place < len(given):
        behind = place + 1 + given[place]
        if given[place] < 1 or behind > len(given):
            raise AssertionError(f"counts don't fit: {given}")
        parts.append(given[place + 1:behind])
        place = behind
    return parts


def ask(*calls):
    given = answers(line(*calls))
    if type(given) is not list or any(type(number) is not int for number in given):
        raise AssertionError(f"not a list of whole numbers: {given}")
    parts = cut(given)
    if len(parts) != len(calls):
        raise AssertionError(f"{len(calls)} calls, but {len(parts)} answers")
    return parts


def last(*calls):
    return ask(*calls)[-1]


def told(value):
    """A fraction as it's to be answered."""
    value = Fraction(value)
    return [0, value.numerator, value.denominator]


def sets_by_enumeration(red, other, n):
    """For 0 to n how many sets of n have so many red ones, each set looked at."""
    numbers = [0] * (n + 1)
    for chosen in combinations([1] * red + [0] * other, n):
        numbers[sum(chosen)] += 1
    return numbers


def spread_out(chances, step):
    after = {}
    for red, likely in chances.items():
        p = step(red)
        after[red] = after.get(red, 0) + likely * (1 - p)
        if p > 0:
            after[red + 1] = after.get(red + 1, 0) + likely * p
    return after


def by_drawing(red, other, n):
    """How likely each number of red ones is, one draw after another."""
    chances = {0: Fraction(1)}
    for drawn in range(n):
        chances = spread_out(chances, lambda had: Fraction(max(red - had, 0), red + other - drawn))
    return chances


def by_drawing_with_putting_back(red, other, n):
    chances = {0: Fraction(1)}
    for drawn in range(n):
        chances = spread_out(chances, lambda had: Fraction(red, red + other))
    return chances


def average(chances):
    return sum(red * likely for red, likely in chances.items())


def squared_distance(chances):
    middle = average(chances)
    return sum((red - middle) ** 2 * likely for red, likely in chances.items())


class Model:
    """The ten calls once more, as slowly and plainly as can be, to hold the program against."""

    def __init__(self):
        self.lying = None
        self.taken = []

    def answer(self, call):
        if call[0] == "begin":
            return self.begin(call[1], call[2])
        if self.lying is None:
            return [-11]
        if call[0] == "draw":
            return self.draw(call[1])
        if call[0] == "back":
            return self.back()
        if call[0] == "chance":
            return told(Fraction(sum(self.lying), len(self.lying))) if self.lying else [-6]
        return self.of_n(call[0], call[1], call[2:])

    def begin(self, m, r):
        if m not in range(1, 25) or r > m:
            return [-22]
        self.lying = [1] * r + [0] * (m - r)
        self.taken = []
        return [0]

    def draw(self, c):
        if c not in (0, 1):
            return [-22]
        if not self.lying:
            return [-6]
        if c not in self.lying:
            return [-33]
        self.lying.remove(c)
        self.taken.append(c)
        return [len(self.lying)]

    def back(self):
        if not self.taken:
            return [-12]
        self.lying.append(self.taken.pop())
        return [self.lying[-1]]

    def of_n(self, name, n, rest):
        many = len(self.lying)
        red = sum(self.lying)
        if n > many:
            return [-22]
        if name in ("mean", "spreadback") and many == 0 or name == "spread" and many < 2:
            return [-6]
        chances = by_drawing(red, many - red, n)
        if name == "just":
            return told(chances.get(rest[0], 0))
        if name == "mean":
            return told(average(chances))
        if name == "spread":
            return told(squared_distance(chances))
        if name == "spreadback":
            return told(squared_distance(by_drawing_with_putting_back(red, many - red, n)))
        sets = 1
        for step in range(n):
            sets = sets * (many - step) // (step + 1)
        numbers = [int(chances.get(k, 0) * sets) for k in range(n + 1)]
        if name == "all_of":
            return [n + 1] + numbers
        return [numbers.index(max(numbers))]
