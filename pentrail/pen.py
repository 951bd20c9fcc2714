"""The pen, which goes along signs."""

from pentrail.points import ORIGIN, plus, powers_of_z
from pentrail.rows import GO, GO_BACK, HALF_ROUND, KEEP, TURN_LESS, TURN_MORE, is_letter, is_step


class Pen:
    def __init__(self, turns):
        self.moves = powers_of_z(turns)
        self.turnings = {TURN_MORE: 1, TURN_LESS: -1, HALF_ROUND: turns // 2}
        self.place = ORIGIN
        self.turn = 0
        self.kept = []
        self.steps = 0
        self.letters = 0

    def follow(self, sign):
        if is_letter(sign):
            self.follow_letter(sign)
        elif sign == GO:
            self.move()
        elif sign == KEEP:
            self.kept.append((self.place, self.turn))
        elif sign == GO_BACK:
            self.go_back()
        else:
            self.turn = (self.turn + self.turnings[sign]) % len(self.moves)

    def follow_letter(self, letter):
        self.letters += 1
        if is_step(letter):
            self.steps += 1
            self.move()

    def move(self):
        self.place = plus(self.place, self.moves[self.turn])

    def go_back(self):
        last = self.kept.pop()
        self.place = last[0]
        self.turn = last[1]

    def state(self):
        return list(self.place) + [self.turn, len(self.kept), self.steps, self.letters]
