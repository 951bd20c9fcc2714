"""Writes calls as the numbers they stand for, takes the answers apart again, and goes along signs in its own way."""

import decimal

from pentrail.world import answers

SIGNS = "ABCDEFGHIJKLMNOPQRSTUVWXYZabcdefghijklmnopqrstuvwxyz>+-|[]"
LETTERS = SIGNS[:52]
TURN_COUNTS = (3, 4, 5, 6, 8, 10, 12)
EVEN_TURN_COUNTS = (4, 6, 8, 10, 12)
BIG = 4294967295
# Generation g has 2^g signs.
DOUBLED = "4\nA\nA=AA\n"


def numbers_of(text):
    if isinstance(text, str):
        text = text.encode("latin-1")
    return list(text)


def counted(text):
    numbers = numbers_of(text)
    return [len(numbers)] + numbers


def byte_of(sign):
    return ord(sign) if isinstance(sign, str) else sign


def start(m):
    return [1, m]


def row(text):
    return [2] + counted(text)


def rule(letter, text):
    return [3, byte_of(letter)] + counted(text)


def read(text):
    return [4] + counted(text)


def write():
    return [5]


def length(g):
    return [6, g]


def count(g, sign):
    return [7, g, byte_of(sign)]


def slice_of(g, first, n):
    return [8, g, first, n]


def find(g, w, first):
    return [9, g, first] + counted(w)


def often(g, w):
    return [10, g] + counted(w)


def where(g, i):
    return [11, g, i]


def drawn(g, k):
    return [12, g, k]


def far(g, direction):
    return [13, g, direction]


def round_of(g):
    return [14, g]


def meets(g, most):
    return [15, g, most]


def walk(g, first, most):
    return [16, g, first, most]


def joined(calls):
    return [number for call in calls for number in call]


def parts(told):
    """One list of numbers for each call."""
    found = []
    place = 0
    while place < len(told):
        size = told[place]
        if size < 1 or place + 1 + size > len(told):
            raise AssertionError(f"a wrong count at {place} of {told}")
        found.append(told[place + 1:place + 1 + size])
        place += 1 + size
    return found


def taken_apart(numbers):
    """One answer's number, list and text; its form is held to on the way."""
    if len(numbers) == 1:
        return (numbers[0], [], "")
    listed_end = 2 + numbers[1]
    listed = numbers[2:listed_end]
    text = numbers[listed_end + 1:]
    if len(text) != numbers[listed_end] or not (listed or text):
        raise AssertionError(f"no answer's form: {numbers}")
    return (numbers[0], listed, bytes(text).decode("latin-1"))


def ask(*calls):
    """The answers to the calls on one new world, each as (number, list, text)."""
    told = [taken_apart(numbers) for numbers in parts(answers(joined(calls)))]
    if len(told) != len(calls):
        raise AssertionError(f"{len(told)} answers to {len(calls)} calls")
    return told


def last(*calls):
    return ask(*calls)[-1]


def done(number):
    """An answer that is its number alone."""
    return (number, [], "")


def listed(*numbers):
    return (0, list(numbers), "")


def found(*numbers):
    """What find and meets answer where there is one."""
    return (1, list(numbers), "")


def walked(*steps):
    return (len(steps), [number for step in steps for number in step], "")


def text_told(text):
    """What write and slice answer of a text."""
    return (len(text), [], text)


def fault(place):
    return (-3, [place], "")


# What no power of z but those of its own m makes 0, lowest power first.
CYCLOTOMIC = {3: (1, 1, 1), 4: (1, 0, 1), 5: (1, 1, 1, 1, 1), 6: (1, -1, 1), 8: (1, 0, 0, 0, 1),
              10: (1, -1, 1, -1, 1), 12: (1, 0, -1, 0, 1)}
PI = decimal.Decimal("3.14159265358979323846264338327950288419716939937510582097494")
# Two different places of trails as short as those asked of here lie farther from one another than that.
NEAR = 10 ** 20


def cosine(part, m):
    """Of part m-ths of a round, times 10^50."""
    with decimal.localcontext() as context:
        context.prec = 60
        x = 2 * PI * (part % m) / m
        term = decimal.Decimal(1)
        total = term
        for k in range(1, 60):
            term = -term * x * x / ((2 * k - 1) * (2 * k))
            total += term
        return int(total * 10 ** 50)


COSINES = {m: [cosine(part, m) for part in range(m)] for m in TURN_COUNTS}


def four_numbers(moves, m):
    """A point's numbers, of how often each power of z is in it: what is left by dividing."""
    divisor = CYCLOTOMIC[m]
    left = list(moves)
    while len(left) >= len(divisor):
        top = left[-1]
        for k, number in enumerate(divisor):
            left[k - len(divisor)] -= top * number
        left.pop()
    return left + [0] * (4 - len(left))


def product(a, b):
    m = len(a)
    made = [0] * m
    for j in range(m):
        for k in range(m):
            made[(j + k) % m] += a[j] * b[k]
    return made


def mirrored(a):
    return [a[-k % len(a)] for k in range(len(a))]


class Seen:
    """What one sees who goes along a text's signs. A place is how often the pen was moved in each direction."""

    def __init__(self, m, text):
        self.m = m
        self.text = text
        self.places = [[0] * m]
        self.states = []
        turn = steps = letters = 0
        kept = []
        for sign in text:
            self.states.append(four_numbers(self.places[-1], m) + [turn, len(kept), steps, letters])
            place = list(self.places[-1])
            if sign in "+-|":
                turn = (turn + {"+": 1, "-": m - 1, "|": m // 2}[sign]) % m
            elif sign == "[":
                kept.append((place, turn))
            elif sign == "]":
                place, turn = kept.pop()
            elif sign == ">" or sign.isupper():
                place[turn] += 1
            letters += sign.isalpha()
            steps += sign.isupper()
            self.places.append(place)
        self.states.append(four_numbers(self.places[-1], m) + [turn, len(kept), steps, letters])
        self.steps = [place for place, sign in enumerate(text) if sign.isupper()]

    def find(self, w, first):
        place = self.text.find(w, first)
        return found(place) if place >= 0 else done(0)

    def often(self, w):
        return listed(sum(self.text.startswith(w, place) for place in range(len(self.text))))

    def where(self, i):
        return listed(*self.states[i]) if i < len(self.states) else done(-2)

    def drawn(self, k):
        return listed(self.steps[k]) if k < len(self.steps) else done(-2)

    def reach(self, place, direction):
        return sum(number * COSINES[self.m][(k - direction) % self.m] for k, number in enumerate(place))

    def far(self, direction):
        reaches = [self.reach(place, direction) for place in self.places]
        farthest = max(reaches)
        i = [reach > farthest - NEAR for reach in reaches].index(True)
        return listed(i, *self.states[i][:4])

    def round_of(self):
        total = [0] * self.m
        for step in self.steps:
            x, y = self.places[step:step + 2]
            ahead, back = product(mirrored(x), y), product(x, mirrored(y))
            total = [total[k] + ahead[k] - back[k] for k in range(self.m)]
        return listed(*four_numbers(total, self.m))

    def meets(self, most):
        steps = self.steps[:most]
        for late, step in enumerate(steps):
            end = self.states[step + 1][:4]
            for before in steps[:late]:
                if end in (self.states[before][:4], self.states[before + 1][:4]):
                    return found(before, step)
        return done(0)

    def walk(self, first, most):
        steps = [step for step in self.steps if step >= first][:most]
        return walked(*[[step] + self.states[step] for step in steps])
