"""Answers calls on things, some of them red, that are drawn and not put back."""

MOST_THINGS = 24

NOT_AS_TOLD = -22
TOO_FEW_LEFT = -6
NO_SUCH_LEFT = -33
NONE_DRAWN = -12
NOT_BEGUN = -11

BEGIN = 0
DRAW = 1
BACK = 2
CHANCE = 3
JUST = 4
ALL_OF = 5
LIKELIEST = 6
MEAN = 7
SPREAD = 8
SPREADBACK = 9

# How many arguments stand behind each call's number, by that number.
ARGUMENT_COUNTS = (2, 1, 0, 0, 2, 1, 1, 1, 1, 1)


def common_divisor(first, second):
    while second > 0:
        rest = first % second
        first = second
        second = rest
    return first


def fraction(above, below):
    divisor = common_divisor(above, below)
    return [0, above // divisor, below // divisor]


def ways_to_choose(few, many):
    if few > many:
        return 0
    ways = 1
    for step in range(few):
        ways = ways * (many - step) // (step + 1)
    return ways


class Drawing:
    def __init__(self):
        self.begun = False
        self.red = 0
        self.other = 0
        # In the order of the draws, because the last one goes back first.
        self.drawn = []

    def left(self):
        return self.red + self.other

    def begin(self, m, r):
        if m < 1 or m > MOST_THINGS or r > m:
            return [NOT_AS_TOLD]
        self.begun = True
        self.red = r
        self.other = m - r
        self.drawn = []
        return [0]

    def draw(self, c):
        if c > 1:
            return [NOT_AS_TOLD]
        if self.left() == 0:
            return [TOO_FEW_LEFT]
        if c == 1 and self.red == 0:
            return [NO_SUCH_LEFT]
        if c == 0 and self.other == 0:
            return [NO_SUCH_LEFT]
        self.red = self.red - c
        self.other = self.other - (1 - c)
        self.drawn.append(c)
        return [self.left()]

    def back(self):
        if len(self.drawn) == 0:
            return [NONE_DRAWN]
        c = self.drawn.pop()
        self.red = self.red + c
        self.other = self.other + (1 - c)
        return [c]

    def chance(self):
        if self.left() == 0:
            return [TOO_FEW_LEFT]
        return fraction(self.red, self.left())

    def sets_with(self, n, k):
        # k may be in the billions: only one that can be may reach the loops.
        if k > n:
            return 0
        return ways_to_choose(k, self.red) * ways_to_choose(n - k, self.other)

    def just(self, n, k):
        return fraction(self.sets_with(n, k), ways_to_choose(n, self.left()))

    def all_of(self, n):
        return [n + 1] + [self.sets_with(n, k) for k in range(n + 1)]

    def likeliest(self, n):
        best = 0
        for k in range(n + 1):
            if self.sets_with(n, k) > self.sets_with(n, best):
                best = k
        return [best]

    def mean(self, n):
        if self.left() == 0:
            return [TOO_FEW_LEFT]
        return fraction(n * self.red, self.left())

    def spread(self, n):
        left = self.left()
        if left < 2:
            return [TOO_FEW_LEFT]
        return fraction(n * self.red * self.other * (left - n), left * left * (left - 1))

    def spreadback(self, n):
        left = self.left()
        if left == 0:
            return [TOO_FEW_LEFT]
        return fraction(n * self.red * self.other, left * left)


def answer_for_n(drawing, number, arguments):
    n = arguments[0]
    # Ahead of every call on n, because the promises name this refusal first.
    if n > drawing.left():
        return [NOT_AS_TOLD]
    if number == JUST:
        return drawing.just(n, arguments[1])
    if number == ALL_OF:
        return drawing.all_of(n)
    if number == LIKELIEST:
        return drawing.likeliest(n)
    if number == MEAN:
        return drawing.mean(n)
    if number == SPREAD:
        return drawing.spread(n)
    return drawing.spreadback(n)


def answer_call(drawing, number, arguments):
    if number == BEGIN:
        return drawing.begin(arguments[0], arguments[1])
    if not drawing.begun:
        return [NOT_BEGUN]
    if number == DRAW:
        return drawing.draw(arguments[0])
    if number == BACK:
        return drawing.back()
    if number == CHANCE:
        return drawing.chance()
    return answer_for_n(drawing, number, arguments)


def answers(calls):
    drawing = Drawing()
    given = []
    place = 0
    while place < len(calls):
        number = calls[place]
        behind = place + 1 + ARGUMENT_COUNTS[number]
        answer = answer_call(drawing, number, calls[place + 1:behind])
        given.append(len(answer))
        given.extend(answer)
        place = behind
    return given
