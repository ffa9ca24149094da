"""Answers calls on things, some of them red, that are drawn and not put back."""

MOST_THINGS = 24
MOST_BELOW = 1000

NOT_AS_TOLD = -22
TOO_FEW_LEFT = -6
NO_SUCH_LEFT = -33
NONE_DRAWN = -12
NOT_BEGUN = -11

BEGIN = 0
DRAW = 1
BACK = 2
CHANCE = 3
JUST = 4
ALL_OF = 5
LIKELIEST = 6
MEAN = 7
SPREAD = 8
SPREADBACK = 9
ATLEAST = 10
NEEDED = 11
KTHAT = 12
KTHMEAN = 13
TWO = 14
SWAPPED = 15
GUESS = 16
CERTAIN = 17
TOLD = 18

# How many arguments stand behind each call's number, by that number.
ARGUMENT_COUNTS = (2, 1, 0, 0, 2, 1, 1, 1, 1, 1, 2, 3, 2, 1, 2, 2, 2, 1, 0)


def common_divisor(first, second):
    while second > 0:
        rest = first % second
        first = second
        second = rest
    return first


def fraction(above, below):
    divisor = common_divisor(above, below)
    return [0, above // divisor, below // divisor]


def ways_to_choose(few, many):
    if few > many:
        return 0
    ways = 1
    for step in range(few):
        ways = ways * (many - step) // (step + 1)
    return ways


def sets_with(red, other, n, k):
    # Else fewer than none would be chosen of the others.
    if k > n:
        return 0
    return ways_to_choose(k, red) * ways_to_choose(n - k, other)


def first_greatest(numbers):
    return numbers.index(max(numbers))


class Drawing:
    def __init__(self):
        self.begun = False
        self.red = 0
        self.other = 0
        # In the order of the draws, because the last one goes back first.
        self.drawn = []

    def left(self):
        return self.red + self.other

    def of_kind(self, c):
        return self.red if c == 1 else self.other

    def begin(self, m, r):
        if m < 1 or m > MOST_THINGS or r > m:
            return [NOT_AS_TOLD]
        self.begun = True
        self.red = r
        self.other = m - r
        self.drawn = []
        return [0]

    def draw(self, c):
        if c > 1:
            return [NOT_AS_TOLD]
        if self.left() == 0:
            return [TOO_FEW_LEFT]
        if self.of_kind(c) == 0:
            return [NO_SUCH_LEFT]
        self.red = self.red - c
        self.other = self.other - (1 - c)
        self.drawn.append(c)
        return [self.left()]

    def back(self):
        if len(self.drawn) == 0:
            return [NONE_DRAWN]
        c = self.drawn.pop()
        self.red = self.red + c
        self.other = self.other + (1 - c)
        return [c]

    def chance(self):
        if self.left() == 0:
            return [TOO_FEW_LEFT]
        return fraction(self.red, self.left())

    def two(self, i, j):
        if i > 1 or j > 1:
            return [NOT_AS_TOLD]
        left = self.left()
        if left < 2:
            return [TOO_FEW_LEFT]
        after = self.of_kind(j)
        if i == j:
            # The next one isn't there any more for the one after it.
            after = after - 1
        return fraction(self.of_kind(i) * after, left * (left - 1))

    def just(self, n, k):
        return fraction(sets_with(self.red, self.other, n, k), ways_to_choose(n, self.left()))

    def sets_of(self, n):
        return [sets_with(self.red, self.other, n, k) for k in range(n + 1)]

    def all_of(self, n):
        return [n + 1] + self.sets_of(n)

    def likeliest(self, n):
        return [first_greatest(self.sets_of(n))]

    def sets_with_at_least(self, n, k):
        return sum(self.sets_of(n)[k:])

    def atleast(self, n, k):
        return fraction(self.sets_with_at_least(n, k), ways_to_choose(n, self.left()))

    def mean(self, n):
        if self.left() == 0:
            return [TOO_FEW_LEFT]
        return fraction(n * self.red, self.left())

    def spread(self, n):
        left = self.left()
        if left < 2:
            return [TOO_FEW_LEFT]
        return fraction(n * self.red * self.other * (left - n), left * left * (left - 1))

    def spreadback(self, n):
        left = self.left()
        if left == 0:
            return [TOO_FEW_LEFT]
        return fraction(n * self.red * self.other, left * left)

    def swapped(self, n, k):
        left = self.left()
        return fraction(sets_with(n, left - n, self.red, k), ways_to_choose(self.red, left))

    def needed(self, k, a, c):
        if c < 1 or c > MOST_BELOW or a > c:
            return [NOT_AS_TOLD]
        left = self.left()
        for n in range(left + 1):
            if self.sets_with_at_least(n, k) * c >= a * ways_to_choose(n, left):
                return [n]
        return [NO_SUCH_LEFT]

    def certain(self, k):
        if k > self.red:
            return [NO_SUCH_LEFT]
        if k == 0:
            return [0]
        # All the others may come first.
        return [self.other + k]

    def comes(self, k):
        return k >= 1 and k <= self.red

    def kthat(self, k, n):
        if not self.comes(k):
            return [NO_SUCH_LEFT]
        left = self.left()
        if n == 0 or n > left:
            return [NOT_AS_TOLD]
        # Of the places of the red ones k - 1 lie ahead of the n-th draw, and the rest behind it.
        ways = ways_to_choose(k - 1, n - 1) * ways_to_choose(self.red - k, left - n)
        return fraction(ways, ways_to_choose(self.red, left))

    def kthmean(self, k):
        if not self.comes(k):
            return [NO_SUCH_LEFT]
        # The red ones part the others into like shares on the average, one more than there are red ones.
        return fraction(k * (self.left() + 1), self.red + 1)

    def guess(self, n, k):
        if k > n:
            return [NOT_AS_TOLD]
        left = self.left()
        return [first_greatest([sets_with(red, left - red, n, k) for red in range(left + 1)])]

    def told(self):
        drawn = len(self.drawn)
        drawn_red = sum(self.drawn)
        return [self.left() + drawn, self.red + drawn_red, drawn, drawn_red]


def answer_for_n_and_k(drawing, number, n, k):
    if number == JUST:
        return drawing.just(n, k)
    if number == ATLEAST:
        return drawing.atleast(n, k)
    if number == SWAPPED:
        return drawing.swapped(n, k)
    return drawing.guess(n, k)


def answer_for_n(drawing, number, arguments):
    n = arguments[0]
    # Ahead of every call on n, because the promises name this refusal first.
    if n > drawing.left():
        return [NOT_AS_TOLD]
    if number == ALL_OF:
        return drawing.all_of(n)
    if number == LIKELIEST:
        return drawing.likeliest(n)
    if number == MEAN:
        return drawing.mean(n)
    if number == SPREAD:
        return drawing.spread(n)
    if number == SPREADBACK:
        return drawing.spreadback(n)
    return answer_for_n_and_k(drawing, number, n, arguments[1])


def answer_for_k(drawing, number, arguments):
    k = arguments[0]
    if number == NEEDED:
        return drawing.needed(k, arguments[1], arguments[2])
    if number == KTHAT:
        return drawing.kthat(k, arguments[1])
    if number == KTHMEAN:
        return drawing.kthmean(k)
    return drawing.certain(k)


def answer_call(drawing, number, arguments):
    if number == BEGIN:
        return drawing.begin(arguments[0], arguments[1])
    if not drawing.begun:
        return [NOT_BEGUN]
    if number == DRAW:
        return drawing.draw(arguments[0])
    if number == BACK:
        return drawing.back()
    if number == CHANCE:
        return drawing.chance()
    if number == TWO:
        return drawing.two(arguments[0], arguments[1])
    if number == TOLD:
        return drawing.told()
    if number == NEEDED or number == KTHAT or number == KTHMEAN or number == CERTAIN:
        return answer_for_k(drawing, number, arguments)
    return answer_for_n(drawing, number, arguments)


def answers(calls):
    drawing = Drawing()
    given = []
    place = 0
    while place < len(calls):
        number = calls[place]
        behind = place + 1 + ARGUMENT_COUNTS[number]
        answer = answer_call(drawing, number, calls[place + 1:behind])
        given.append(len(answer))
        given.extend(answer)
        place = behind
    return given
