"""Generations of a row: how often each sign stands in them, and their signs written out."""


def tally_of(row):
    tally = {}
    for sign in row:
        tally[sign] = tally.get(sign, 0) + 1
    return tally


def add_times(tally, added, times):
    for sign in added:
        tally[sign] = tally.get(sign, 0) + added[sign] * times


# How often the signs stand doesn't depend on their order,
# so a generation of 2^64 signs is counted as fast as one of a few.
class Tallies:
    def __init__(self, first_row, rules):
        self.by_letter = {}
        for letter in rules:
            self.by_letter[letter] = tally_of(rules[letter])
        self.by_generation = [tally_of(first_row)]

    def tally(self, g):
        while len(self.by_generation) <= g:
            self.by_generation.append(self.behind(self.by_generation[-1]))
        return self.by_generation[g]

    def behind(self, tally):
        following = {}
        for sign in tally:
            if sign in self.by_letter:
                add_times(following, self.by_letter[sign], tally[sign])
            else:
                following[sign] = following.get(sign, 0) + tally[sign]
        return following


def rewritten(signs, rules):
    following = []
    for sign in signs:
        if sign in rules:
            following.extend(rules[sign])
        else:
            following.append(sign)
    return following


def written_out(first_row, rules, g):
    signs = first_row
    for generation in range(g):
        signs = rewritten(signs, rules)
    return signs
