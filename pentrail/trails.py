"""What is seen of the trail of some signs by one who goes along them."""

from pentrail.outlook import Outlook
from pentrail.pen import Pen
from pentrail.points import ORIGIN, crossed, plus
from pentrail.rows import is_step


def state_behind(signs, turns):
    pen = Pen(turns)
    for sign in signs:
        pen.follow(sign)
    return pen.state()


def step_places(signs):
    return [place for place, sign in enumerate(signs) if is_step(sign)]


# After how many signs, and the place.
def farthest(signs, turns, direction):
    pen = Pen(turns)
    outlook = Outlook(turns, direction)
    best = (0, pen.place)
    for behind, sign in enumerate(signs, start=1):
        pen.follow(sign)
        if outlook.lies_ahead(pen.place, best[1]):
            best = (behind, pen.place)
    return best


# Of a step from x to y, y is x and a power of z, and x crossed with itself is 0: so x is crossed with the power alone.
# That holds of sums too, so those of all steps with the same turn are added up first and crossed once.
def gone_round(signs, turns):
    pen = Pen(turns)
    begun = [ORIGIN] * turns
    for sign in signs:
        if is_step(sign):
            begun[pen.turn] = plus(begun[pen.turn], pen.place)
        pen.follow(sign)
    total = ORIGIN
    for turn, begins in enumerate(begun):
        total = plus(total, crossed(begins, pen.moves[turn], turns))
    return total


# The places among the signs of the step that is met and of the one that meets it; nothing if there's none.
def first_meeting(signs, turns, most):
    pen = Pen(turns)
    first_there = {}
    for place, sign in enumerate(signs):
        begin = pen.place
        pen.follow(sign)
        if pen.steps > most:
            return []
        if is_step(sign):
            if pen.place in first_there:
                return [first_there[pen.place], place]
            first_there.setdefault(begin, place)
            first_there[pen.place] = place
    return []


# Of each step its sign's place and the state before it.
def steps_from(signs, turns, first, most):
    pen = Pen(turns)
    steps = []
    for place, sign in enumerate(signs):
        if len(steps) == most:
            return steps
        if is_step(sign) and place >= first:
            steps.append([place] + pen.state())
        pen.follow(sign)
    return steps
