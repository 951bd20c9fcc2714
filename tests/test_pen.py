"""where, drawn and walk: the pen's state, and the signs that draw."""

import unittest

from helper import (BIG, DOUBLED, EVEN_TURN_COUNTS, LETTERS, TURN_COUNTS, Seen, ask, done, drawn, last, listed, read,
                    row, rule, start, text_told, walk, walked, where, write)
from pentrail.world import answers

# The powers of z, each m's from 0 on, as DOC.md's "Points" tells them.
POWERS = {
    3: ((1, 0, 0, 0), (0, 1, 0, 0), (-1, -1, 0, 0)),
    4: ((1, 0, 0, 0), (0, 1, 0, 0), (-1, 0, 0, 0), (0, -1, 0, 0)),
    5: ((1, 0, 0, 0), (0, 1, 0, 0), (0, 0, 1, 0), (0, 0, 0, 1), (-1, -1, -1, -1)),
    6: ((1, 0, 0, 0), (0, 1, 0, 0), (-1, 1, 0, 0), (-1, 0, 0, 0), (0, -1, 0, 0), (1, -1, 0, 0)),
    8: ((1, 0, 0, 0), (0, 1, 0, 0), (0, 0, 1, 0), (0, 0, 0, 1),
        (-1, 0, 0, 0), (0, -1, 0, 0), (0, 0, -1, 0), (0, 0, 0, -1)),
    10: ((1, 0, 0, 0), (0, 1, 0, 0), (0, 0, 1, 0), (0, 0, 0, 1), (-1, 1, -1, 1),
         (-1, 0, 0, 0), (0, -1, 0, 0), (0, 0, -1, 0), (0, 0, 0, -1), (1, -1, 1, -1)),
    12: ((1, 0, 0, 0), (0, 1, 0, 0), (0, 0, 1, 0), (0, 0, 0, 1), (-1, 0, 1, 0), (0, -1, 0, 1),
         (-1, 0, 0, 0), (0, -1, 0, 0), (0, 0, -1, 0), (0, 0, 0, -1), (1, 0, -1, 0), (0, 1, 0, -1)),
}


class Where(unittest.TestCase):
    def state(self, m, text, i):
        return last(start(m), row(text), where(0, i))

    def end(self, m, text):
        return self.state(m, text, len(text))

    def test_each_power_of_z(self):
        for m in TURN_COUNTS:
            for turn in range(m):
                for moves in ("A", ">"):
                    steps = 1 if moves == "A" else 0
                    right = listed(*POWERS[m][turn], turn, 0, steps, steps)
                    self.assertEqual(self.end(m, "+" * turn + moves), right, (m, turn))

    def test_a_whole_round_is_no_turn(self):
        for m in TURN_COUNTS:
            self.assertEqual(self.end(m, "+" * m + "A"), listed(1, 0, 0, 0, 0, 0, 1, 1), m)
            self.assertEqual(self.end(m, "-" * m + "A"), listed(1, 0, 0, 0, 0, 0, 1, 1), m)
            self.assertEqual(self.end(m, "A+" * m), listed(0, 0, 0, 0, 0, 0, m, m), m)
            self.assertEqual(self.end(m, "A-" * m), listed(0, 0, 0, 0, 0, 0, m, m), m)

    def test_turns_both_ways(self):
        for m in TURN_COUNTS:
            for turns in range(1, 2 * m + 2):
                self.assertEqual(self.end(m, "+" * turns), listed(0, 0, 0, 0, turns % m, 0, 0, 0), (m, turns))
                self.assertEqual(self.end(m, "-" * turns), listed(0, 0, 0, 0, -turns % m, 0, 0, 0), (m, turns))
            self.assertEqual(self.end(m, "-A"), listed(*POWERS[m][m - 1], m - 1, 0, 1, 1), m)

    def test_half_a_round(self):
        for m in EVEN_TURN_COUNTS:
            self.assertEqual(self.end(m, "|"), listed(0, 0, 0, 0, m // 2, 0, 0, 0), m)
            self.assertEqual(self.end(m, "||"), listed(0, 0, 0, 0, 0, 0, 0, 0), m)
            self.assertEqual(self.end(m, "-|"), listed(0, 0, 0, 0, m // 2 - 1, 0, 0, 0), m)
            self.assertEqual(self.end(m, "|A"), listed(-1, 0, 0, 0, m // 2, 0, 1, 1), m)
            self.assertEqual(self.end(m, "A|A"), listed(0, 0, 0, 0, m // 2, 0, 2, 2), m)

    def test_each_i(self):
        right = ((0, 0, 0, 0, 0, 0, 0, 0), (1, 0, 0, 0, 0, 0, 1, 1), (1, 0, 0, 0, 0, 1, 1, 1), (1, 0, 0, 0, 1, 1, 1, 1),
                 (1, 1, 0, 0, 1, 1, 2, 2), (1, 0, 0, 0, 0, 0, 2, 2), (2, 0, 0, 0, 0, 0, 2, 2), (3, 0, 0, 0, 0, 0, 3, 3))
        for i, state in enumerate(right):
            self.assertEqual(self.state(4, "A[+A]>A", i), listed(*state), i)
        for i in (8, 9, 256, BIG):
            self.assertEqual(self.state(4, "A[+A]>A", i), done(-2), i)

    def test_within_and_behind_what_is_kept(self):
        text = "A[+A[-A+++]B]|C"
        seen = Seen(12, text)
        for i in range(len(text) + 1):
            self.assertEqual(self.state(12, text, i), seen.where(i), i)
        self.assertEqual(self.state(12, text, 10), listed(2, 1, 0, 0, 3, 2, 3, 3))
        self.assertEqual(self.state(12, text, 11), listed(1, 1, 0, 0, 1, 1, 3, 3))
        self.assertEqual(self.state(12, text, 13), listed(1, 0, 0, 0, 0, 0, 4, 4))

    def test_the_last_kept_is_gone_back_to_first(self):
        self.assertEqual(self.end(4, "A[+A[+A]]"), listed(1, 0, 0, 0, 0, 0, 3, 3))
        self.assertEqual(self.end(4, "[A[A]A][]"), listed(0, 0, 0, 0, 0, 0, 3, 3))
        self.assertEqual(self.state(4, "[A[A]A]", 5), listed(1, 0, 0, 0, 0, 1, 2, 2))

    def test_each_letter(self):
        for letter in LETTERS:
            moved = 1 if letter.isupper() else 0
            self.assertEqual(self.end(4, letter), listed(moved, 0, 0, 0, 0, 0, moved, 1), letter)

    def test_of_generations(self):
        calls = [row("A-A"), rule("A", "A+A-A")]
        for g, text in ((0, "A-A"), (1, "A+A-A-A+A-A"), (2, "A+A-A+A+A-A-A+A-A-A+A-A+A+A-A-A+A-A")):
            seen = Seen(4, text)
            told = ask(*calls, *[where(g, i) for i in range(len(text) + 2)])
            self.assertEqual(told[2:], [seen.where(i) for i in range(len(text) + 2)])

    def test_many_places_kept(self):
        calls = [row("A"), rule("A", "[[+A]]")]
        self.assertEqual(last(*calls, where(64, 64 * 3 + 1)), listed(1, 0, 0, 0, 0, 128, 1, 1))
        self.assertEqual(last(*calls, where(64, 64 * 5 + 1)), listed(0, 0, 0, 0, 0, 0, 1, 1))

    def test_far_away(self):
        calls = [start(10), row("----A"), rule("A", "AA")]
        self.assertEqual(last(*calls, where(14, 2 ** 14 + 4)),
                         listed(0, -2 ** 14, 0, 0, 6, 0, 2 ** 14, 2 ** 14))

    def test_refusals_in_their_order(self):
        told = ask(read(DOUBLED), where(65, 0), where(65, BIG), where(BIG, 0), where(64, 0), where(64, BIG),
                   where(0, 2), where(0, 1), where(3, 9), where(3, BIG), write())
        self.assertEqual(told[1:], [done(-1)] * 3 + [done(-7)] * 2 + [done(-2), listed(1, 0, 0, 0, 0, 0, 1, 1)]
                         + [done(-2)] * 2 + [text_told(DOUBLED)])


class Drawn(unittest.TestCase):
    def test_each_step(self):
        text = "a>A+[bB]|cZ>z"
        for k, place in ((0, 2), (1, 6), (2, 10)):
            self.assertEqual(last(row(text), drawn(0, k)), listed(place), k)
        for k in (3, 4, 256, BIG):
            self.assertEqual(last(row(text), drawn(0, k)), done(-2), k)

    def test_each_letter(self):
        for letter in LETTERS:
            right = listed(2) if letter.isupper() else done(-2)
            self.assertEqual(last(row("a>" + letter), drawn(0, 0)), right, letter)

    def test_no_step(self):
        for text in ("", "abz>+-|[]"):
            self.assertEqual(ask(row(text), drawn(0, 0), drawn(0, BIG), drawn(64, 0))[1:], [done(-2)] * 3, text)

    def test_of_generations(self):
        calls = [row("bA"), rule("A", "cA+A"), rule("b", "")]
        for g, text in ((0, "bA"), (1, "cA+A"), (2, "ccA+A+cA+A")):
            seen = Seen(4, text)
            self.assertEqual(ask(*calls, *[drawn(g, k) for k in range(6)])[3:], [seen.drawn(k) for k in range(6)])

    def test_the_last_of_many(self):
        calls = [row("A"), rule("A", "AaA")]
        self.assertEqual(ask(*calls, drawn(12, 4095), drawn(12, 4096), drawn(12, 4094))[2:],
                         [listed(8190), done(-2), listed(8188)])

    def test_refusals_in_their_order(self):
        told = ask(read(DOUBLED), drawn(65, 0), drawn(65, BIG), drawn(BIG, 0), drawn(64, 0), drawn(64, BIG),
                   drawn(0, 1), drawn(0, 0), drawn(3, 7), drawn(3, 8), write())
        self.assertEqual(told[1:], [done(-1)] * 3 + [done(-7)] * 2 + [done(-2), listed(0), listed(7), done(-2)]
                         + [text_told(DOUBLED)])


class Walk(unittest.TestCase):
    ROW = "A[+A]>A"
    STEPS = ([0, 0, 0, 0, 0, 0, 0, 0, 0], [3, 1, 0, 0, 0, 1, 1, 1, 1], [6, 2, 0, 0, 0, 0, 0, 2, 2])

    def walk_of(self, first, most):
        return last(row(self.ROW), walk(0, first, most))

    def test_from_before_at_and_behind_a_sign(self):
        for first, skipped in ((0, 0), (1, 1), (2, 1), (3, 1), (4, 2), (5, 2), (6, 2), (7, 3), (8, 3), (BIG, 3)):
            self.assertEqual(self.walk_of(first, 10), walked(*self.STEPS[skipped:]), first)

    def test_most(self):
        for most in (0, 1, 2, 3, 4, 999, 1000):
            self.assertEqual(self.walk_of(0, most), walked(*self.STEPS[:most]), most)
            self.assertEqual(self.walk_of(1, most), walked(*self.STEPS[1:][:most]), most)
        for most in (1001, 1256, BIG):
            self.assertEqual(self.walk_of(0, most), done(-2), most)

    def test_in_the_numbers_of_the_interface(self):
        calls = [2, 7, 65, 91, 43, 65, 93, 62, 65, 16, 0, 1, 10]
        told = [1, 0, 21, 2, 18, 3, 1, 0, 0, 0, 1, 1, 1, 1, 6, 2, 0, 0, 0, 0, 0, 2, 2, 0]
        self.assertEqual(answers(calls), told)

    def test_none_is_a_number_alone(self):
        self.assertEqual(answers([2, 1, 65, 16, 0, 1, 10, 16, 0, 0, 0]), [1, 0, 1, 0, 1, 0])

    def test_letters_and_moves_that_draw_nothing_are_in_the_state(self):
        self.assertEqual(last(row("ab>+>B"), walk(0, 2, 9)), walked([5, 1, 1, 0, 0, 1, 0, 0, 2]))

    def test_within_what_is_kept(self):
        text = "[A[+A]-A[[A]]]A"
        for m in TURN_COUNTS:
            seen = Seen(m, text)
            for first in range(len(text) + 1):
                self.assertEqual(last(start(m), row(text), walk(0, first, 9)), seen.walk(first, 9), (m, first))

    def test_1000_of_more(self):
        calls = [start(6), row("A"), rule("A", "A+A[A]")]
        text = "A"
        for g in range(7):
            text = text.replace("A", "A+A[A]")
        seen = Seen(6, text)
        for first in (0, 1, 777, len(text) - 2600):
            self.assertEqual(last(*calls, walk(7, first, 1000)), seen.walk(first, 1000), first)
            self.assertEqual(last(*calls, walk(7, first, 1000))[0], 1000)
        self.assertEqual(last(*calls, walk(7, len(text) - 1, 1000)), done(0))

    def test_refusals_in_their_order(self):
        told = ask(read(DOUBLED), walk(65, 0, 1), walk(65, 0, 1001), walk(BIG, 0, 0), walk(64, 0, 1001),
                   walk(63, 0, 1001), walk(64, 0, 1000), walk(64, BIG, 0), write())
        self.assertEqual(told[1:], [done(-1)] * 3 + [done(-2)] * 2 + [done(-7)] * 2 + [text_told(DOUBLED)])


if __name__ == "__main__":
    unittest.main()
