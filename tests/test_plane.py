"""far, round and meets: what the trail is in the plane."""

import unittest

from helper import (BIG, DOUBLED, EVEN_TURN_COUNTS, TURN_COUNTS, Seen, ask, done, far, found, last, listed, meets,
                    read, row, round_of, rule, start, text_told, write)
from pentrail.outlook import Outlook
from pentrail.world import answers


def moves(number, letter):
    """A row of one letter, and rules by which generation 2 is > so often."""
    tens, ones = divmod(number, 100)
    texts = {letter: letter.lower() * tens + ">" * ones, letter.lower(): ">" * 100}
    return [rule(name, text) for name, text in texts.items()]


class Far(unittest.TestCase):
    def test_each_direction_along_it(self):
        for m in TURN_COUNTS:
            for direction in range(m):
                seen = Seen(m, "+" * direction + "AA")
                told = last(start(m), row(seen.text), far(0, direction))
                self.assertEqual(told, listed(direction + 2, *seen.states[-1][:4]), (m, direction))

    def test_each_direction_of_each_trail(self):
        for m in TURN_COUNTS:
            for text in ("A+A+A+A", "A-A-A-A-A-A", "[A+A]-A[--AA]++>>A", ">" + "A+" * m, "-a-A-b-A-A"):
                seen = Seen(m, text)
                told = ask(start(m), row(text), *[far(0, direction) for direction in range(m)])
                self.assertEqual(told[2:], [seen.far(direction) for direction in range(m)], (m, text))

    def test_directions_above_m(self):
        for m in TURN_COUNTS:
            calls = [start(m), row("A+A[--A]+A")]
            told = ask(*calls, *[far(0, direction) for direction in range(m)])[2:]
            for more in (m, 2 * m, 100 * m, BIG // m * m - m):
                self.assertEqual(ask(*calls, *[far(0, more + direction) for direction in range(m)])[2:], told, m)
            self.assertEqual(last(*calls, far(0, BIG)), told[BIG % m], m)

    def test_the_same_place_again(self):
        self.assertEqual(ask(row("A|A|A"), far(0, 4), far(0, 2))[1:], [listed(1, 1, 0, 0, 0), listed(0, 0, 0, 0, 0)])
        self.assertEqual(last(row("AaA[+b]|A"), far(0, 0)), listed(3, 2, 0, 0, 0))

    def test_another_place_as_far(self):
        self.assertEqual(last(row("A+A+A+A"), far(0, 1)), listed(3, 1, 1, 0, 0))
        self.assertEqual(last(start(3), row("A+AA-A"), far(0, 0)), listed(1, 1, 0, 0, 0))
        self.assertEqual(last(row("A[+A]-A"), far(0, 0)), listed(1, 1, 0, 0, 0))
        # 1 + z and its mirror image, each one as the first
        for m in TURN_COUNTS[2:]:
            self.assertEqual(last(start(m), row("[A+A]A-A"), far(0, 0)), listed(4, 1, 1, 0, 0), m)
            mirror = Seen(m, "A-A").states[-1][:4]
            self.assertEqual(last(start(m), row("[A-A]A+A"), far(0, 0)), listed(4, *mirror), m)

    def test_as_far_by_quite_other_powers(self):
        # Some are the same place all the same: with m 12, z^2 + z^10 is 1; with m 10, so is z + z^3 + z^7 + z^9.
        for m, one, other in ((12, "[A]", "[++A++++++++A]"), (10, "[A]", "[+A++A++++A++A]"), (8, "[A++A]", "[A--A]"),
                              (5, "[A+A-A]", "[A-A+A]"), (6, "[A]", "[+A----A]")):
            for text in (one + other, other + one):
                seen = Seen(m, text)
                told = ask(start(m), row(text), *[far(0, direction) for direction in range(m)])
                self.assertEqual(told[2:], [seen.far(direction) for direction in range(m)], (m, text))

    def test_places_only_moved_to_and_gone_back_from(self):
        self.assertEqual(ask(row("[>>]A"), far(0, 0), far(0, 2))[1:], [listed(3, 2, 0, 0, 0), listed(0, 0, 0, 0, 0)])
        self.assertEqual(last(row("[[+>]A]|A"), far(0, 1)), listed(4, 0, 1, 0, 0))

    def test_never_ahead_of_its_beginning(self):
        for m in TURN_COUNTS:
            back = "+" * ((m + 1) // 2)
            told = ask(start(m), row(back + "AA>A"), far(0, 0), far(0, m))
            self.assertEqual(told[2:], [listed(0, 0, 0, 0, 0)] * 2, m)
        for m in EVEN_TURN_COUNTS:
            self.assertEqual(last(start(m), row("|A[A]A|A"), far(0, 0)), listed(0, 0, 0, 0, 0))

    def test_no_sign_and_no_move(self):
        for text in ("", "ab+[-]"):
            for m in TURN_COUNTS:
                self.assertEqual(ask(start(m), row(text), far(0, 1), far(64, BIG))[2:], [listed(0, 0, 0, 0, 0)] * 2)

    def test_refusals_in_their_order(self):
        told = ask(read(DOUBLED), far(65, 0), far(BIG, BIG), far(64, 0), far(64, BIG), write())
        self.assertEqual(told[1:], [done(-1)] * 2 + [done(-7)] * 2 + [text_told(DOUBLED)])


class Near(unittest.TestCase):
    """Places that lie nearly equally far: some moves ahead, and others one turn to each side.

    One move to each side, both together, lie ahead by the root of 2 (m 8), of 3 (m 12), the golden ratio (m 10) or
    that less 1 (m 5). Fractions that come near to these, from both sides, are how many moves there are of each.
    """

    PAIRS = {
        8: ((577, 408), (1393, 985), (3363, 2378), (8119, 5741)),
        12: ((989, 571), (1351, 780), (3691, 2131), (5042, 2911)),
        10: ((1597, 987), (2584, 1597), (4181, 2584), (6765, 4181)),
        5: ((987, 1597), (1597, 2584), (2584, 4181), (4181, 6765)),
    }
    # From one such fraction to the next: the new two numbers, each by the old two.
    NEXT = {8: ((1, 2), (1, 1)), 12: ((1, 3), (1, 1)), 10: ((1, 1), (1, 0)), 5: ((0, 1), (1, 1))}

    def is_ahead(self, m, ahead, beside):
        """Whether the moves ahead take one farther, in whole numbers alone."""
        if m in (8, 12):
            return ahead ** 2 > {8: 2, 12: 3}[m] * beside ** 2
        if m == 10:
            return ahead ** 2 > ahead * beside + beside ** 2
        return ahead ** 2 + ahead * beside > beside ** 2

    def asked(self, m, ahead, beside, direction, beside_first):
        """Generation 2 has the two ways one behind another, both from the beginning."""
        ways = ["[A]", "[+B--B]"]
        if beside_first:
            ways.reverse()
        calls = [start(m), row("+" * direction + ways[0] + ways[1])] + moves(ahead, "A") + moves(beside, "B")
        return last(*calls, far(2, direction))

    def right(self, m, ahead, beside, direction, beside_first):
        power = [Seen(m, "+" * turn + ">").states[-1][:4] for turn in range(m)]
        if self.is_ahead(m, ahead, beside):
            behind = ahead + (2 * beside + 5 if beside_first else 0)
            place = [ahead * number for number in power[direction]]
        else:
            behind = 2 * beside + 3 + (0 if beside_first else ahead + 2)
            sides = zip(power[(direction + 1) % m], power[direction - 1])
            place = [beside * (left + right) for left, right in sides]
        return listed(direction + 1 + behind, *place)

    def test_both_sides_are_asked_of(self):
        for m, pairs in self.PAIRS.items():
            self.assertEqual({self.is_ahead(m, *pair) for pair in pairs}, {True, False}, m)

    def test_them(self):
        for m, pairs in self.PAIRS.items():
            for place, pair in enumerate(pairs):
                for beside_first in (False, True):
                    asked = (m, *pair, (3 * place + beside_first) % m, beside_first)
                    self.assertEqual(self.asked(*asked), self.right(*asked), asked)

    def test_each_direction(self):
        for m, pairs in self.PAIRS.items():
            for direction in range(m):
                for pair in pairs[:2]:
                    asked = (m, *pair, direction, False)
                    self.assertEqual(self.asked(*asked), self.right(*asked), asked)

    def test_places_so_far_away_that_no_trail_asked_of_reaches_them(self):
        for m, ((a, b), (c, d)) in self.NEXT.items():
            seen = Seen(m, "[+>]->")
            side = [seen.states[3][k] + seen.states[-1][k] for k in range(4)]
            ahead, beside = 2, 1
            outlook = Outlook(m, 0)
            for turn in range(300):
                ahead, beside = a * ahead + b * beside, c * ahead + d * beside
                first, second = (ahead, 0, 0, 0), tuple(beside * number for number in side)
                told = (outlook.lies_ahead(first, second), outlook.lies_ahead(second, first))
                right = self.is_ahead(m, ahead, beside)
                self.assertEqual(told, (right, not right), (m, ahead, beside))
            self.assertGreater(ahead, 10 ** 50)

    def test_no_place_lies_ahead_of_itself(self):
        for m in TURN_COUNTS:
            for direction in range(m):
                self.assertFalse(Outlook(m, direction).lies_ahead((9, -5, 0, 0), (9, -5, 0, 0)))


class Round(unittest.TestCase):
    def test_the_documents_square(self):
        self.assertEqual(last(row("A+A+A+A"), round_of(0)), listed(0, 4, 0, 0))
        self.assertEqual(last(row("A-A-A-A"), round_of(0)), listed(0, -4, 0, 0))
        self.assertEqual(last(row("AA+AAA+AA+AAA"), round_of(0)), listed(0, 24, 0, 0))

    def test_closed_ones_of_each_m(self):
        # Four times the area, which is m / 4 by the cotangent of the m-th part of half a round.
        right = {3: (1, 2, 0, 0), 4: (0, 4, 0, 0), 5: (3, 6, 4, 2), 6: (-6, 12, 0, 0), 8: (0, 8, 8, 8),
                 10: (-10, 20, 0, 20), 12: (-12, 0, 24, 24)}
        for m in TURN_COUNTS:
            self.assertEqual(last(start(m), row("A+" * m), round_of(0)), listed(*right[m]), m)
            self.assertEqual(last(start(m), row("A-" * m), round_of(0)), listed(*[-number for number in right[m]]), m)

    def test_ones_that_do_not_close(self):
        self.assertEqual(last(row("A+A"), round_of(0)), listed(0, 2, 0, 0))
        self.assertEqual(last(row("AAA"), round_of(0)), listed(0, 0, 0, 0))
        for m in TURN_COUNTS:
            for text in ("A", "A+A", "A-A", "A+A+A", "AA-AA", "+A+AAA"):
                self.assertEqual(last(start(m), row(text), round_of(0)), Seen(m, text).round_of(), (m, text))

    def test_moves_are_no_steps(self):
        self.assertEqual(last(row(">+>+>+>"), round_of(0)), listed(0, 0, 0, 0))
        self.assertEqual(last(row(">+A"), round_of(0)), listed(0, 2, 0, 0))
        self.assertEqual(last(row("A+>"), round_of(0)), listed(0, 0, 0, 0))
        self.assertEqual(last(row(">>+>A+A>-"), round_of(0)), listed(0, 8, 0, 0))

    def test_places_gone_back_to(self):
        self.assertEqual(last(row("A[+A]A"), round_of(0)), listed(0, 2, 0, 0))
        self.assertEqual(last(row(">[+A][-A]A"), round_of(0)), listed(0, 0, 0, 0))
        for m in TURN_COUNTS:
            for text in ("A[+A]A", ">[+A+A>A]-A[[>]A]A", "[A[-A[-A]A]A]+aA"):
                self.assertEqual(last(start(m), row(text), round_of(0)), Seen(m, text).round_of(), (m, text))

    def test_small_letters_change_nothing(self):
        self.assertEqual(last(row("aA+bA+cA+dAe"), round_of(0)), listed(0, 4, 0, 0))

    def test_a_great_one(self):
        calls = [row("A+A+A+A"), rule("A", "AA")]
        self.assertEqual(last(*calls, round_of(12)), listed(0, 4 * 4096 ** 2, 0, 0))
        calls = [start(6), row("A--A--A"), rule("A", "A+A--A+A")]
        text = "A--A--A"
        for g in range(5):
            self.assertEqual(last(*calls, round_of(g)), Seen(6, text).round_of(), g)
            text = text.replace("A", "A+A--A+A")

    def test_no_step(self):
        for text in ("", "ab>>+>[->]"):
            self.assertEqual(ask(row(text), round_of(0), round_of(64))[1:], [listed(0, 0, 0, 0)] * 2)

    def test_refusals_in_their_order(self):
        told = ask(read(DOUBLED), round_of(65), round_of(BIG), round_of(64), write())
        self.assertEqual(told[1:], [done(-1)] * 2 + [done(-7), text_told(DOUBLED)])


class Meets(unittest.TestCase):
    def met(self, text, most=1000):
        return last(row(text), meets(0, most))

    def test_where_one_began(self):
        self.assertEqual(self.met("A+A+A+A"), found(0, 6))
        self.assertEqual(self.met(">A|A"), found(1, 3))
        self.assertEqual(self.met("AA|A"), found(0, 3))

    def test_where_one_ended(self):
        self.assertEqual(self.met("A[A]A"), found(2, 4))
        self.assertEqual(self.met("[A]A"), found(1, 3))

    def test_the_first_that_was_there(self):
        # The first step ends where the second begins.
        self.assertEqual(self.met("A+A|A"), found(0, 4))
        self.assertEqual(self.met("AAA|>>A"), found(0, 6))
        self.assertEqual(self.met("[A][+A][|A]A"), found(1, 11))

    def test_the_first_that_meets(self):
        self.assertEqual(self.met("AA|AAAA|A"), found(0, 3))
        self.assertEqual(self.met("A[+A]A[+A+A]AA|A"), found(3, 10))

    def test_beginning_where_one_was_is_no_meeting(self):
        self.assertEqual(self.met("[A][+A][-A]"), done(0))
        self.assertEqual(self.met("AA|>>+A"), done(0))

    def test_moves_do_not_count(self):
        self.assertEqual(self.met(">+>+>+>A"), done(0))
        self.assertEqual(self.met("A+>+A+A"), found(0, 6))
        self.assertEqual(self.met("A+>+>+A"), found(0, 6))
        self.assertEqual(self.met("A+A+>+>"), done(0))
        self.assertEqual(self.met(">A+A+>+A"), found(1, 7))
        self.assertEqual(self.met(">>A+A+>>+A"), done(0))
        self.assertEqual(self.met(">A+A+>>+A"), done(0))
        self.assertEqual(self.met(">[A]|A"), done(0))

    def test_none(self):
        for text in ("", "A", "AAAA", "A+A-A+A", "abc", "[]", "A[+A]-A"):
            self.assertEqual(self.met(text), done(0), text)

    def test_most(self):
        for most, told in ((0, done(0)), (1, done(0)), (3, done(0)), (4, found(0, 6)), (5, found(0, 6)),
                           (1000, found(0, 6)), (1001, done(-2)), (1256, done(-2)), (BIG, done(-2))):
            self.assertEqual(self.met("A+A+A+A", most), told, most)
        for most, told in ((0, done(0)), (1, done(0)), (2, found(0, 2))):
            self.assertEqual(self.met("A|A", most), told, most)

    def test_just_within_and_just_behind_1000(self):
        for straight, told in ((999, found(997, 1001)), (1000, done(0))):
            calls = [row("B" * (straight // 100) + "A" * (straight % 100) + "b|A"), rule("B", "A" * 100)]
            self.assertEqual(last(*calls, meets(1, 1000)), told, straight)
            self.assertEqual(last(*calls, meets(1, 999)), done(0), straight)

    def test_closed_ones_of_each_m(self):
        for m in TURN_COUNTS:
            calls = [start(m), row("A+" * m)]
            self.assertEqual(ask(*calls, meets(0, m - 1), meets(0, m))[2:], [done(0), found(0, 2 * m - 2)], m)
            for text in ("A++A++A++A++A++A++A", "A+A--A+A+A--A+A-A-A-A"):
                seen = Seen(m, text)
                told = ask(start(m), row(text), *[meets(0, most) for most in range(12)])
                self.assertEqual(told[2:], [seen.meets(most) for most in range(12)], (m, text))

    def test_in_the_numbers_of_the_interface(self):
        calls = [2, 7, 65, 43, 65, 43, 65, 43, 65, 15, 0, 4, 15, 0, 3]
        self.assertEqual(answers(calls), [1, 0, 5, 1, 2, 0, 6, 0, 1, 0])

    def test_refusals_in_their_order(self):
        told = ask(read(DOUBLED), meets(65, 0), meets(65, 1001), meets(BIG, 0), meets(64, 1001), meets(63, 1001),
                   meets(64, 1000), meets(64, 0), write())
        self.assertEqual(told[1:], [done(-1)] * 3 + [done(-2)] * 2 + [done(-7)] * 2 + [text_told(DOUBLED)])


if __name__ == "__main__":
    unittest.main()
