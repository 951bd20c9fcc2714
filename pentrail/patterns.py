"""Where bytes stand one behind another among signs."""


# Near the end the slice is shorter than w, so it's never taken for it.
def places_of(w, signs, first):
    return [place for place in range(first, len(signs)) if signs[place:place + len(w)] == w]
