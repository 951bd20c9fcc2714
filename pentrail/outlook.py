"""Which of two points lies ahead of the other, seen in a direction; exactly, however near they are."""

from pentrail.points import minus, powers_of_z

# A point's real part is a multiple of p + q times the root of a whole number, with whole p and q.
# Of each m: what each of the point's numbers adds to p, ..
WHOLES = {
    3: (2, -1, 0, 0),
    4: (1, 0, 0, 0),
    5: (4, -1, -1, -1),
    6: (2, 1, 0, 0),
    8: (2, 0, 0, 0),
    10: (4, 1, -1, 1),
    12: (2, 0, 1, 0),
}
# .. what it adds to q, ..
ROOTS = {
    3: (0, 0, 0, 0),
    4: (0, 0, 0, 0),
    5: (0, 1, -1, -1),
    6: (0, 0, 0, 0),
    8: (0, 1, 0, -1),
    10: (0, 1, 1, -1),
    12: (0, 1, 0, 0),
}
# .. and the number whose root it is.
SQUARES = {3: 1, 4: 1, 5: 5, 6: 1, 8: 2, 10: 5, 12: 3}


def weighed(a, weights):
    return a[0] * weights[0] + a[1] * weights[1] + a[2] * weights[2] + a[3] * weights[3]


# x times abs(x) grows with x, so p + q times the root is above 0 just where the sum of these squares is:
# no root is ever drawn, so nothing is rounded.
def is_above_0(p, q, square):
    return p * abs(p) + q * abs(q) * square > 0


# A point turned back is the sum of the powers of z in it turned back: so these four are turned, not every point.
class Outlook:
    def __init__(self, turns, direction):
        powers = powers_of_z(turns)
        turned_back = [powers[(k - direction) % turns] for k in range(4)]
        self.wholes = [weighed(power, WHOLES[turns]) for power in turned_back]
        self.roots = [weighed(power, ROOTS[turns]) for power in turned_back]
        self.square = SQUARES[turns]

    def lies_ahead(self, a, b):
        way = minus(a, b)
        return is_above_0(weighed(way, self.wholes), weighed(way, self.roots), self.square)
