"""What DOC.md says over the whole program: its examples, what is refused, empty trails, heavy lists, and by chance."""

import random
import time
import unittest

from helper import (BIG, DOUBLED, EVEN_TURN_COUNTS, TURN_COUNTS, Seen, ask, count, done, drawn, far, fault, find, found,
                    joined, last, length, listed, meets, often, read, round_of, row, rule, slice_of, start, text_told,
                    walk, walked, where, write)
from pentrail.world import answers

SOME_SECONDS = 10


class Examples(unittest.TestCase):
    """All of the document's."""

    def test_a_generation(self):
        told = ask(row("A-A"), rule("A", "A+A-A"), slice_of(1, 0, 10000))
        self.assertEqual(told, [done(0), done(0), text_told("A+A-A-A+A-A")])

    def test_the_square(self):
        told = ask(start(4), row("A+A+A+A"), where(0, 7), round_of(0), meets(0, 4), far(0, 1))
        self.assertEqual(told[2:], [listed(0, 0, 0, 0, 3, 0, 4, 4), listed(0, 4, 0, 0), found(0, 6),
                                    listed(3, 1, 1, 0, 0)])

    def test_the_square_in_numbers(self):
        calls = [2, 7, 65, 43, 65, 43, 65, 43, 65, 11, 0, 7, 14, 0, 15, 0, 4, 13, 0, 1]
        told = [1, 0, 11, 0, 8, 0, 0, 0, 0, 3, 0, 4, 4, 0, 7, 0, 4, 0, 4, 0, 0, 0, 5, 1, 2, 0, 6, 0,
                8, 0, 5, 3, 1, 1, 0, 0, 0]
        self.assertEqual(answers(calls), told)

    def test_faults(self):
        self.assertEqual(ask(read("13"), read("4\n[\n"), read("4\n" + "[" * 128)), [fault(1), fault(3), fault(129)])

    def test_a_new_object(self):
        self.assertEqual(ask(write(), where(0, 0), far(0, 1), round_of(0)),
                         [text_told("4\n\n"), listed(*[0] * 8), listed(*[0] * 5), listed(*[0] * 4)])


class Refusals(unittest.TestCase):
    """Of generation g: -1, then -2 of what is handed over, then -7, then -2 of what is asked too far."""

    RIGHT = (find(0, "A", 0), often(0, "A"), where(0, 0), drawn(0, 0), far(0, 0), round_of(0), meets(0, 1000),
             walk(0, 0, 1000), slice_of(0, 0, 10000), length(0), count(0, "A"))
    WRONG = (find(0, "", 0), find(0, "A" * 65, BIG), often(0, ""), often(0, "A" * 65), meets(0, 1001), meets(0, BIG),
             walk(0, 0, 1001), walk(0, BIG, BIG), slice_of(0, 0, 10001), count(0, "="))
    TOO_FAR = (where(0, 2), where(0, BIG), drawn(0, 1), drawn(0, BIG))

    def of(self, g, calls):
        return [[call[0], g] + call[2:] for call in calls]

    def refused(self, g, calls):
        told = ask(read(DOUBLED), *self.of(g, calls))
        self.assertEqual({numbers[1:] == ([], "") for numbers in told}, {True})
        return [number for number, numbers, text in told[1:]]

    def test_minus_1_before_all_else(self):
        for g in (65, 66, 128, 256, 320, BIG):
            for calls in (self.RIGHT, self.WRONG, self.TOO_FAR):
                self.assertEqual(self.refused(g, calls), [-1] * len(calls), g)

    def test_minus_2_before_minus_7(self):
        for g in (0, 3, 63, 64):
            self.assertEqual(self.refused(g, self.WRONG), [-2] * len(self.WRONG), g)

    def test_minus_7_before_what_is_asked_too_far(self):
        for calls in (self.RIGHT, self.TOO_FAR):
            self.assertEqual(self.refused(64, calls), [-7] * len(calls))

    def test_minus_2_of_what_is_asked_too_far(self):
        self.assertEqual(self.refused(0, self.TOO_FAR), [-2] * 4)

    def test_nothing_is_refused_of_64_that_fits(self):
        told = ask(row("A"), *self.of(64, self.RIGHT))
        self.assertEqual([number for number, numbers, text in told], [0, 1, 0, 0, 0, 0, 0, 0, 1, 1, 0, 0])

    def test_minus_7_just_where_it_does_not_fit(self):
        # 2^58 times 63 and 2^58 times 64 signs.
        for letters, refused in ((63, 0), (64, -7)):
            calls = [row("A" * letters), rule("A", "AA")]
            self.assertEqual(last(*calls, length(58))[0], refused)
            if refused:
                told = ask(*calls, *self.of(58, self.RIGHT))
                self.assertEqual(told[2:], [done(-7)] * len(self.RIGHT))

    def test_it_is_judged_anew_behind_each_change(self):
        told = ask(read(DOUBLED), where(64, 0), rule("A", "b"), where(64, 1), rule("b", "AAAA"), where(64, 1), row("+"),
                   where(64, 1))
        self.assertEqual(told[1::2], [done(-7), listed(0, 0, 0, 0, 0, 0, 0, 1), done(-7), listed(0, 0, 0, 0, 1, 0, 0, 0)])

    def test_they_change_nothing(self):
        world = [start(12), row("A[+B]|a"), rule("A", "AA+"), rule("a", "")]
        calls = [where(2, 4), drawn(2, 2), far(2, 5), round_of(2), meets(2, 9), walk(2, 1, 9), find(2, "A", 1),
                 often(2, "A"), write()]
        refused = self.of(65, self.RIGHT) + list(self.WRONG) + [where(0, 99), drawn(0, 99), start(7), row("]"),
                                                               rule("A", "["), rule("|", ""), read("13")]
        right = ask(*world, *calls)[4:]
        told = ask(*world, *[call for bad in refused for call in [bad] + calls])[4:]
        size = len(calls) + 1
        for place, bad in enumerate(refused):
            self.assertLess(told[place * size][0], 0, bad)
            self.assertEqual(told[place * size + 1:(place + 1) * size], right, bad)


class NothingThere(unittest.TestCase):
    """Empty rows, and generations whose letters are gone."""

    RIGHT = [done(0), listed(0), listed(*[0] * 8), done(-2), done(-2), listed(*[0] * 5), listed(*[0] * 4), done(0),
             done(0)]

    def asked(self, g, *world):
        calls = (find(g, "A", 0), often(g, "A"), where(g, 0), where(g, 1), drawn(g, 0), far(g, 1), round_of(g),
                 meets(g, 1000), walk(g, 0, 1000))
        return ask(*world, *calls)[len(world):]

    def test_empty_rows(self):
        for m in TURN_COUNTS:
            for g in (0, 1, 64):
                self.assertEqual(self.asked(g, start(m)), self.RIGHT, m)
                self.assertEqual(self.asked(g, start(m), rule("A", "AA")), self.RIGHT, m)

    def test_letters_that_are_gone(self):
        for m in TURN_COUNTS:
            world = [start(m), row("AB"), rule("A", ""), rule("B", "AA")]
            self.assertNotEqual(self.asked(1, *world), self.RIGHT, m)
            for g in (2, 3, 64):
                self.assertEqual(self.asked(g, *world), self.RIGHT, m)

    def test_what_is_left_behind_them(self):
        world = [row("A+[A]>"), rule("A", "")]
        self.assertEqual(ask(*world, where(1, 4), drawn(1, 0), far(1, 1), find(1, "[]", 0), find(0, "[]", 0))[2:],
                         [listed(0, 1, 0, 0, 1, 0, 0, 0), done(-2), listed(4, 0, 1, 0, 0), found(1), done(0)])


class Heavy(unittest.TestCase):
    """Lists as long and as heavy as they may be."""

    def timed(self, calls):
        begin = time.monotonic()
        told = ask(*calls)
        self.assertLess(time.monotonic() - begin, SOME_SECONDS)
        return told

    def test_100000_in_one_call(self):
        rules = {"A": "B" * 110, "B": "A+[>c-]B>|" * 11}
        world = [start(12), row("A" * 8)] + [rule(letter, rules[letter]) for letter in rules]
        text = "".join(rules[letter] for letter in rules["A"] * 8)
        self.assertEqual(len("A" * 8) + len(rules["A"] * 8) + len(text), 97688)
        seen = Seen(12, text)
        w = text[-64:]
        for call, right in ((find(2, w, 5), seen.find(w, 5)), (find(2, "BB", 0), done(0)), (often(2, w), seen.often(w)),
                            (where(2, 96800), seen.where(96800)), (drawn(2, 19359), seen.drawn(19359)),
                            (far(2, 7), seen.far(7)), (round_of(2), seen.round_of()), (meets(2, 0), done(0)),
                            (meets(2, 1000), seen.meets(1000)), (walk(2, 90000, 1000), seen.walk(90000, 1000))):
            self.assertEqual(self.timed(world + [call])[-1], right, call)

    def test_100000_that_never_meet_and_are_found_nowhere(self):
        world = [start(5), row("A" * 8), rule("A", "B" * 110), rule("B", "A" * 109 + ">")]
        told = [self.timed(world + [call])[-1] for call in
                (meets(2, 1000), find(2, "A" * 64 + ">", 0), find(2, "A" * 63 + "B", 0), often(2, "A" * 64), far(2, 0),
                 far(2, 2), round_of(2), where(2, 96800), drawn(2, 95920))]
        self.assertEqual(told, [done(0), done(-2), done(0), listed(880 * 46), listed(96800, 96800, 0, 0, 0),
                                listed(0, 0, 0, 0, 0), listed(0, 0, 0, 0), listed(96800, 0, 0, 0, 0, 0, 95920, 95920),
                                done(-2)])

    def test_100000_in_400_calls(self):
        world = [start(8), row("A+A[-B]" * 35)]
        asked = [find(0, "B]A", 5), often(0, "A"), where(0, 200), drawn(0, 70), far(0, 3), round_of(0), meets(0, 1000),
                 walk(0, 100, 5)]
        seen = Seen(8, "A+A[-B]" * 35)
        right = [seen.find("B]A", 5), seen.often("A"), seen.where(200), seen.drawn(70), seen.far(3), seen.round_of(),
                 seen.meets(1000), seen.walk(100, 5)]
        told = self.timed(world + asked * 49)
        self.assertEqual(told[2:], right * 49)

    def test_400_calls_of_generation_64(self):
        world = [start(5), row("A"), rule("A", "B+"), rule("B", "A-")]
        told = self.timed(world + [where(64, 65), far(64, 2), round_of(64), walk(64, 0, 9)] * 99)
        seen = Seen(5, "A" + "-+" * 32)
        self.assertEqual(told[4:], [seen.where(65), seen.far(2), seen.round_of(), seen.walk(0, 9)] * 99)

    def test_refused_ones_weigh_nothing(self):
        calls = [find(64, "A", 0), often(64, "A"), where(64, 1), drawn(64, 1), far(64, 1), round_of(64), meets(64, 9),
                 walk(64, 0, 9), slice_of(64, 0, 9), find(63, "", 0), often(63, "A" * 65), meets(63, 1001),
                 walk(63, 0, 1001), slice_of(63, 0, 10001), where(65, 0)]
        told = self.timed([read(DOUBLED)] + calls * 26)
        self.assertEqual(told[1:], ([done(-7)] * 9 + [done(-2)] * 5 + [done(-1)]) * 26)

    def test_many_places_kept_at_once(self):
        world = [row("A"), rule("A", "[" * 127 + "A" + "]" * 127)]
        told = self.timed(world + [where(9, 127 * 9 + 1), where(9, 254 * 9 + 1), far(9, 0), walk(9, 0, 1000)])
        self.assertEqual(told[2:], [listed(1, 0, 0, 0, 0, 1143, 1, 1), listed(0, 0, 0, 0, 0, 0, 1, 1),
                                    listed(1144, 1, 0, 0, 0), walked([1143, 0, 0, 0, 0, 0, 1143, 0, 0])])

    def test_many_numbers_answered(self):
        world = [row("A" * 250), rule("A", "AAAA")]
        told = self.timed(world + [walk(1, 0, 1000)] * 70)
        steps = [[place, place, 0, 0, 0, 0, 0, place, place] for place in range(1000)]
        self.assertEqual(told[2:], [walked(*steps)] * 70)


class ByChance(unittest.TestCase):
    """Worlds by chance, beside one who goes along all their signs."""

    def some_row(self, chance, m, deep):
        text = ""
        for sign in range(chance.randrange(6)):
            if deep and chance.random() < 0.25:
                text += "[" + self.some_row(chance, m, deep - 1) + "]"
            else:
                text += chance.choice("AAAB>+-+-ab" + ("|" if m in EVEN_TURN_COUNTS else ""))
        return text

    def some_calls(self, chance, m, g, seen):
        size = len(seen.text)
        first, i, k = [chance.randrange(size + 3) for number in range(3)]
        direction = chance.randrange(3 * m)
        most = chance.choice((0, 1, 2, 3, 5, 8, 13, 1000))
        begin = chance.randrange(size + 1)
        w = seen.text[begin:begin + chance.randrange(1, 6)] or "A"
        return ((find(g, w, first), seen.find(w, first)), (often(g, w), seen.often(w)), (where(g, i), seen.where(i)),
                (drawn(g, k), seen.drawn(k)), (far(g, direction), seen.far(direction)),
                (round_of(g), seen.round_of()), (meets(g, most), seen.meets(most)),
                (walk(g, first, most), seen.walk(first, most)))

    def test_them(self):
        chance = random.Random(106)
        for turn in range(400):
            m = chance.choice(TURN_COUNTS)
            text = self.some_row(chance, m, 2)
            rules = {letter: self.some_row(chance, m, 1) for letter in chance.sample("ABab", chance.randrange(4))}
            calls = [start(m), row(text)] + [rule(letter, rules[letter]) for letter in rules]
            right = [done(0)] * len(calls)
            for g in range(5):
                if len(text) > 150:
                    break
                for call, told in self.some_calls(chance, m, g, Seen(m, text)):
                    calls.append(call)
                    right.append(told)
                text = "".join(rules.get(sign, sign) for sign in text)
            self.assertEqual(ask(*calls), right, joined(calls))


if __name__ == "__main__":
    unittest.main()
