"""Points of the plane, each told exactly by four whole numbers; turns is m, how many turns make a whole round."""

ORIGIN = (0, 0, 0, 0)
ONE = (1, 0, 0, 0)

# Of each m: how many of the four numbers a point has (the others are 0), ..
SIZES = {3: 2, 4: 2, 5: 4, 6: 2, 8: 4, 10: 4, 12: 4}
# .. and the point that z to that power is.
NEXT_POWERS = {
    3: (-1, -1, 0, 0),
    4: (-1, 0, 0, 0),
    5: (-1, -1, -1, -1),
    6: (-1, 1, 0, 0),
    8: (-1, 0, 0, 0),
    10: (-1, 1, -1, 1),
    12: (-1, 0, 1, 0),
}


def plus(a, b):
    return (a[0] + b[0], a[1] + b[1], a[2] + b[2], a[3] + b[3])


def so_often(a, number):
    return (a[0] * number, a[1] * number, a[2] * number, a[3] * number)


def minus(a, b):
    return plus(a, so_often(b, -1))


def times_z(a, turns):
    size = SIZES[turns]
    lower = (0,) + a[:size - 1] + ORIGIN[size:]
    return plus(lower, so_often(NEXT_POWERS[turns], a[size - 1]))


def powers_of_z(turns):
    powers = [ONE]
    while len(powers) < turns:
        powers.append(times_z(powers[-1], turns))
    return powers


def times(a, b, turns):
    product = ORIGIN
    for number in a:
        product = plus(product, so_often(b, number))
        b = times_z(b, turns)
    return product


def aside(a, turns):
    powers = powers_of_z(turns)
    mirrored = ORIGIN
    for k, number in enumerate(a):
        mirrored = plus(mirrored, so_often(powers[-k % turns], number))
    return mirrored


# (aside a) b - a (aside b)
def crossed(a, b, turns):
    return minus(times(aside(a, turns), b, turns), times(a, aside(b, turns), turns))
