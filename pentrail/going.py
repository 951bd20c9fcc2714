"""The calls that ask for the trail of a generation: where, drawn, far, round, meets, walk."""

from pentrail.answer import number_alone, with_list
from pentrail.refusing import refusal
from pentrail.trails import farthest, first_meeting, gone_round, state_behind, step_places, steps_from

MOST_STEPS = 1000


def where_answer(world, g, i):
    refused = refusal(world, g, True)
    if refused < 0:
        return number_alone(refused)
    if i > world.length_at(g):
        return number_alone(-2)
    return with_list(0, state_behind(world.signs_at(g)[:i], world.turns))


def drawn_answer(world, g, k):
    refused = refusal(world, g, True)
    if refused < 0:
        return number_alone(refused)
    places = step_places(world.signs_at(g))
    if k >= len(places):
        return number_alone(-2)
    return with_list(0, [places[k]])


def far_answer(world, g, direction):
    refused = refusal(world, g, True)
    if refused < 0:
        return number_alone(refused)
    best = farthest(world.signs_at(g), world.turns, direction)
    return with_list(0, [best[0]] + list(best[1]))


def round_answer(world, g):
    refused = refusal(world, g, True)
    if refused < 0:
        return number_alone(refused)
    return with_list(0, list(gone_round(world.signs_at(g), world.turns)))


def meets_answer(world, g, most):
    refused = refusal(world, g, most <= MOST_STEPS)
    if refused < 0:
        return number_alone(refused)
    met = first_meeting(world.signs_at(g), world.turns, most)
    if not met:
        return number_alone(0)
    return with_list(1, met)


def walk_answer(world, g, first, most):
    refused = refusal(world, g, most <= MOST_STEPS)
    if refused < 0:
        return number_alone(refused)
    steps = steps_from(world.signs_at(g), world.turns, first, most)
    numbers = []
    for step in steps:
        numbers.extend(step)
    return with_list(len(steps), numbers)
