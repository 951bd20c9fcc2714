"""When a call that asks of a generation is refused."""

LAST_GENERATION = 64
# 2^64
FEWEST_THAT_DO_NOT_FIT = 18446744073709551616


# 0 if nothing is refused. The order is the document's: what is handed over is judged ahead of the fit.
def refusal(world, g, rightly_asked):
    if g > LAST_GENERATION:
        return -1
    if not rightly_asked:
        return -2
    if world.length_at(g) >= FEWEST_THAT_DO_NOT_FIT:
        return -7
    return 0
