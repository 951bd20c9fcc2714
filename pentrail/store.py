"""What one world keeps: m, the first row and the rules."""

from pentrail.generations import Tallies, written_out


class World:
    def __init__(self):
        self.become(4, [], {})

    # Every change goes through here, since the tallies hold for one row and its rules alone.
    def become(self, turns, first_row, rules):
        self.turns = turns
        self.first_row = first_row
        self.rules = rules
        self.tallies = None

    def set_row(self, row):
        self.become(self.turns, row, self.rules)

    def set_rule(self, letter, row):
        rules = dict(self.rules)
        rules[letter] = row
        self.become(self.turns, self.first_row, rules)

    # Kept between changes: many calls of one list may ask of the same generations.
    def tally_at(self, g):
        if self.tallies is None:
            self.tallies = Tallies(self.first_row, self.rules)
        return self.tallies.tally(g)

    def length_at(self, g):
        return sum(self.tally_at(g).values())

    def signs_at(self, g):
        return written_out(self.first_row, self.rules, g)
