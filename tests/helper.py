"""What the tests share: asking by names, and the answers worked out in other ways."""

from fractions import Fraction
from functools import lru_cache
from itertools import combinations, permutations

from redthings.drawing import answers

GREATEST = 4294967295

NUMBERS = {
    "begin": 0, "draw": 1, "back": 2, "chance": 3, "just": 4,
    "all_of": 5, "likeliest": 6, "mean": 7, "spread": 8, "spreadback": 9,
    "atleast": 10, "needed": 11, "kthat": 12, "kthmean": 13, "two": 14,
    "swapped": 15, "guess": 16, "certain": 17, "told": 18,
}

COUNTS = {
    "begin": 2, "draw": 1, "back": 0, "chance": 0, "just": 2,
    "all_of": 1, "likeliest": 1, "mean": 1, "spread": 1, "spreadback": 1,
    "atleast": 2, "needed": 3, "kthat": 2, "kthmean": 1, "two": 2,
    "swapped": 2, "guess": 2, "certain": 1, "told": 0,
}


def line(*calls):
    """One list of numbers from calls such as ("begin", 5, 2) or "back"."""
    numbers = []
    for call in calls:
        if isinstance(call, str):
            call = (call,)
        numbers.append(NUMBERS[call[0]])
        numbers.extend(call[1:])
    return numbers


def cut(given):
    """The answers one by one; each must have just as many numbers as it tells."""
    parts = []
    place = 0
    while place < len(given):
        behind = place + 1 + given[place]
        if given[place] < 1 or behind > len(given):
            raise AssertionError(f"counts don't fit: {given}")
        parts.append(given[place + 1:behind])
        place = behind
    return parts


def ask(*calls):
    given = answers(line(*calls))
    if type(given) is not list or any(type(number) is not int for number in given):
        raise AssertionError(f"not a list of whole numbers: {given}")
    parts = cut(given)
    if len(parts) != len(calls):
        raise AssertionError(f"{len(calls)} calls, but {len(parts)} answers")
    return parts


def last(*calls):
    return ask(*calls)[-1]


def told(value):
    """A fraction as it's to be answered."""
    value = Fraction(value)
    return [0, value.numerator, value.denominator]


def sets_by_enumeration(red, other, n):
    """For 0 to n how many sets of n have so many red ones, each set looked at."""
    numbers = [0] * (n + 1)
    for chosen in combinations([1] * red + [0] * other, n):
        numbers[sum(chosen)] += 1
    return numbers


@lru_cache(maxsize=None)
def orders(red, other):
    """All orders in which those left may be drawn, each as likely as another."""
    return list(permutations([1] * red + [0] * other))


def begin(red, other):
    return ("begin", red + other, red)


def leave(red, other):
    """Calls after which so many are left of 24, others of which were drawn."""
    more = 24 - red - other
    more_red = more // 2
    return [("begin", 24, red + more_red)] + [("draw", 1)] * more_red + [("draw", 0)] * (more - more_red)


def spread_out(chances, step):
    after = {}
    for red, likely in chances.items():
        p = step(red)
        after[red] = after.get(red, 0) + likely * (1 - p)
        if p > 0:
            after[red + 1] = after.get(red + 1, 0) + likely * p
    return after


@lru_cache(maxsize=None)
def by_drawing(red, other, n):
    """How likely each number of red ones is, one draw after another."""
    chances = {0: Fraction(1)}
    for drawn in range(n):
        chances = spread_out(chances, lambda had: Fraction(max(red - had, 0), red + other - drawn))
    return chances


@lru_cache(maxsize=None)
def by_drawing_with_putting_back(red, other, n):
    chances = {0: Fraction(1)}
    for drawn in range(n):
        chances = spread_out(chances, lambda had: Fraction(red, red + other))
    return chances


def average_of(numbers):
    return Fraction(sum(numbers), len(numbers))


def likely_at_least(red, other, n, k):
    return sum(likely for reds, likely in by_drawing(red, other, n).items() if reds >= k)


def likely_kth_at(red, other, k, n):
    """With k - 1 red ones among the draws ahead, the n-th must be red."""
    return by_drawing(red, other, n - 1).get(k - 1, 0) * Fraction(red - k + 1, red + other - n + 1)


def average(chances):
    return sum(red * likely for red, likely in chances.items())


def squared_distance(chances):
    middle = average(chances)
    return sum((red - middle) ** 2 * likely for red, likely in chances.items())


class Model:
    """All calls once more, as slowly and plainly as can be, to hold the program against."""

    def __init__(self):
        self.first = None
        self.lying = None
        self.taken = []

    def answer(self, call):
        name = call[0]
        if name == "begin":
            return self.begin(*call[1:])
        if self.lying is None:
            return [-11]
        if name in ("draw", "back", "chance", "two", "told"):
            return getattr(self, name)(*call[1:])
        red = sum(self.lying)
        other = len(self.lying) - red
        if name in ("needed", "certain", "kthat", "kthmean"):
            return getattr(self, name)(red, other, *call[1:])
        return self.of_n(name, red, other, call[1], call[2:])

    def begin(self, m, r):
        if m not in range(1, 25) or r > m:
            return [-22]
        self.first = [m, r]
        self.lying = [1] * r + [0] * (m - r)
        self.taken = []
        return [0]

    def draw(self, c):
        if c not in (0, 1):
            return [-22]
        if not self.lying:
            return [-6]
        if c not in self.lying:
            return [-33]
        self.lying.remove(c)
        self.taken.append(c)
        return [len(self.lying)]

    def back(self):
        if not self.taken:
            return [-12]
        self.lying.append(self.taken.pop())
        return [self.lying[-1]]

    def told(self):
        return self.first + [len(self.taken), self.taken.count(1)]

    def chance(self):
        return told(Fraction(sum(self.lying), len(self.lying))) if self.lying else [-6]

    def two(self, i, j):
        if i not in (0, 1) or j not in (0, 1):
            return [-22]
        if len(self.lying) < 2:
            return [-6]
        return told(average_of([(a, b) == (i, j) for a, b in permutations(self.lying, 2)]))

    def needed(self, red, other, k, a, c):
        if c not in range(1, 1001) or a > c:
            return [-22]
        for n in range(red + other + 1):
            if likely_at_least(red, other, n, k) >= Fraction(a, c):
                return [n]
        return [-33]

    def certain(self, red, other, k):
        for n in range(red + other + 1):
            if likely_at_least(red, other, n, k) == 1:
                return [n]
        return [-33]

    def kthat(self, red, other, k, n):
        if k not in range(1, red + 1):
            return [-33]
        if n not in range(1, red + other + 1):
            return [-22]
        return told(likely_kth_at(red, other, k, n))

    def kthmean(self, red, other, k):
        if k not in range(1, red + 1):
            return [-33]
        return told(sum(n * likely_kth_at(red, other, k, n) for n in range(1, red + other + 1)))

    def of_n(self, name, red, other, n, rest):
        many = red + other
        if n > many:
            return [-22]
        if name in ("mean", "spreadback") and many == 0 or name == "spread" and many < 2:
            return [-6]
        chances = by_drawing(red, other, n)
        if name == "mean":
            return told(average(chances))
        if name == "spread":
            return told(squared_distance(chances))
        if name == "spreadback":
            return told(squared_distance(by_drawing_with_putting_back(red, other, n)))
        if name in ("all_of", "likeliest"):
            return self.of_sets(name, many, n, chances)
        return self.of_n_and_k(name, red, other, n, rest[0])

    def of_sets(self, name, many, n, chances):
        sets = 1
        for step in range(n):
            sets = sets * (many - step) // (step + 1)
        numbers = [int(chances.get(k, 0) * sets) for k in range(n + 1)]
        if name == "all_of":
            return [n + 1] + numbers
        return [numbers.index(max(numbers))]

    def of_n_and_k(self, name, red, other, n, k):
        many = red + other
        if name == "just":
            return told(by_drawing(red, other, n).get(k, 0))
        if name == "atleast":
            return told(likely_at_least(red, other, n, k))
        if name == "swapped":
            return told(by_drawing(n, many - n, red).get(k, 0))
        if k > n:
            return [-22]
        chances = [by_drawing(reds, many - reds, n).get(k, 0) for reds in range(many + 1)]
        return [chances.index(max(chances))]
