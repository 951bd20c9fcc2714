"""The calls that ask for the signs of a generation: length, count, slice, find, often."""

from pentrail.answer import number_alone, with_list, with_text
from pentrail.patterns import places_of
from pentrail.refusing import refusal
from pentrail.rows import is_sign

LONGEST_SLICE = 10000
LONGEST_PATTERN = 64


def length_answer(world, g):
    refused = refusal(world, g, True)
    if refused < 0:
        return number_alone(refused)
    return with_list(0, [world.length_at(g)])


def count_answer(world, g, sign):
    refused = refusal(world, g, is_sign(sign))
    if refused < 0:
        return number_alone(refused)
    return with_list(0, [world.tally_at(g).get(sign, 0)])


def slice_answer(world, g, first, n):
    refused = refusal(world, g, n <= LONGEST_SLICE)
    if refused < 0:
        return number_alone(refused)
    return with_text(world.signs_at(g)[first:first + n])


def is_pattern(w):
    return 1 <= len(w) <= LONGEST_PATTERN


def find_answer(world, g, w, first):
    refused = refusal(world, g, is_pattern(w))
    if refused < 0:
        return number_alone(refused)
    places = places_of(w, world.signs_at(g), first)
    if not places:
        return number_alone(0)
    return with_list(1, [places[0]])


def often_answer(world, g, w):
    refused = refusal(world, g, is_pattern(w))
    if refused < 0:
        return number_alone(refused)
    return with_list(0, [len(places_of(w, world.signs_at(g), 0))])
