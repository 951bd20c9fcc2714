"""The calls that ask of a generation: length, count, slice."""

from pentrail.answer import number_alone, with_list, with_text
from pentrail.rows import is_sign

LAST_GENERATION = 64
# 2^64
FEWEST_THAT_DO_NOT_FIT = 18446744073709551616
LONGEST_SLICE = 10000


# 0 if nothing is refused. The order is the document's: what is handed over is judged ahead of the fit.
def refusal(world, g, rightly_asked):
    if g > LAST_GENERATION:
        return -1
    if not rightly_asked:
        return -2
    if world.length_at(g) >= FEWEST_THAT_DO_NOT_FIT:
        return -7
    return 0


def length_answer(world, g):
    refused = refusal(world, g, True)
    if refused < 0:
        return number_alone(refused)
    return with_list(0, [world.length_at(g)])


def count_answer(world, g, sign):
    refused = refusal(world, g, is_sign(sign))
    if refused < 0:
        return number_alone(refused)
    return with_list(0, [world.tally_at(g).get(sign, 0)])


def slice_answer(world, g, first, n):
    refused = refusal(world, g, n <= LONGEST_SLICE)
    if refused < 0:
        return number_alone(refused)
    signs = world.signs_at(g)[first:first + n]
    return with_text(signs)
