"""find and often: where bytes stand one behind another in a generation, and at how many places."""

import random
import unittest

from helper import (BIG, DOUBLED, SIGNS, Seen, ask, done, find, found, last, listed, often, read, row, rule, start,
                    write)
from pentrail.world import answers


class Find(unittest.TestCase):
    ROW = "AB+AB[-AB]A"

    def found_in(self, text, w, first):
        return last(row(text), find(0, w, first))

    def test_a_pattern_at_the_first_and_the_last_place(self):
        self.assertEqual(self.found_in(self.ROW, "AB+", 0), found(0))
        self.assertEqual(self.found_in(self.ROW, "]A", 0), found(9))
        self.assertEqual(self.found_in(self.ROW, self.ROW, 0), found(0))
        self.assertEqual(self.found_in("A", "A", 0), found(0))

    def test_from_before_at_and_behind_a_place(self):
        for first, place in ((0, 0), (1, 3), (2, 3), (3, 3), (4, 7), (6, 7), (7, 7)):
            self.assertEqual(self.found_in(self.ROW, "AB", first), found(place), first)

    def test_from_behind_the_last_place(self):
        for first in (8, 9, 10, 11, 12, 255, BIG):
            self.assertEqual(self.found_in(self.ROW, "AB", first), done(0), first)

    def test_from_behind_the_end(self):
        for first, told in ((10, found(10)), (11, done(0)), (12, done(0)), (BIG, done(0))):
            self.assertEqual(self.found_in(self.ROW, "A", first), told, first)

    def test_one_that_begins_before_first_does_not_count(self):
        self.assertEqual(self.found_in("ABAB", "AB", 1), found(2))
        self.assertEqual(self.found_in("ABA", "AB", 1), done(0))

    def test_one_that_overlaps_itself(self):
        for first, told in ((0, found(0)), (1, found(1)), (2, done(0))):
            self.assertEqual(self.found_in("AAA", "AA", first), told, first)
        self.assertEqual(self.found_in("ABABABA", "ABABA", 1), found(2))
        self.assertEqual(self.found_in("AABAAABAAAB", "AAAB", 0), found(3))

    def test_none(self):
        self.assertEqual(self.found_in(self.ROW, "BA", 0), done(0))
        self.assertEqual(self.found_in(self.ROW, "a", 0), done(0))
        self.assertEqual(self.found_in(self.ROW, self.ROW + "A", 0), done(0))
        self.assertEqual(self.found_in(self.ROW, "]AA", 0), done(0))
        self.assertEqual(self.found_in("", "A", 0), done(0))

    def test_each_sign_by_itself(self):
        for place, sign in enumerate(SIGNS):
            self.assertEqual(self.found_in(SIGNS, sign, 0), found(place), sign)

    def test_over_the_edge_between_two_rows(self):
        calls = [row("A-A"), rule("A", "A+A-A")]
        self.assertEqual(last(*calls, find(1, "A-A-A", 0)), found(2))
        self.assertEqual(last(*calls, find(1, "A-A-A+", 3)), done(0))
        self.assertEqual(last(*calls, find(0, "A-A-A", 0)), done(0))

    def test_in_the_numbers_of_the_interface(self):
        calls = [2, 3, 65, 65, 65, 9, 0, 1, 2, 65, 65, 9, 0, 2, 2, 65, 65, 10, 0, 2, 65, 65]
        self.assertEqual(answers(calls), [1, 0, 4, 1, 1, 1, 0, 1, 0, 4, 0, 1, 2, 0])


class Often(unittest.TestCase):
    def often_in(self, text, w):
        return last(row(text), often(0, w))

    def test_some(self):
        for text, w, times in (("AB+AB[-AB]A", "AB", 3), ("AB+AB[-AB]A", "A", 4), ("AB", "AB", 1), ("AB", "BA", 0),
                               ("AB", "ABA", 0), ("", "A", 0), ("A", "A", 1), ("[][]", "[]", 2), ("[][]", "][", 1)):
            self.assertEqual(self.often_in(text, w), listed(times), (text, w))

    def test_one_that_overlaps_itself(self):
        for text, w, times in (("AAA", "AA", 2), ("A" * 255, "A" * 64, 192), ("ABABABA", "ABA", 3),
                               ("AAAA", "AAAA", 1), ("AAABAAAB", "AAB", 2)):
            self.assertEqual(self.often_in(text, w), listed(times), (text, w))

    def test_of_some_generations(self):
        told = ask(row("A-A"), rule("A", "A+A-A"), *[often(g, "A-A") for g in range(4)])
        self.assertEqual(told[2:], [listed(1), listed(3), listed(9), listed(27)])


class Handed(unittest.TestCase):
    """w itself."""

    def test_sizes(self):
        calls = [row("A" * 70)]
        for size, place, times in ((1, 0, 70), (2, 0, 69), (63, 0, 8), (64, 0, 7)):
            told = ask(*calls, find(0, "A" * size, 0), often(0, "A" * size), find(0, "A" * size, 70 - size),
                       find(0, "A" * size, 71 - size))
            self.assertEqual(told[1:], [found(place), listed(times), found(70 - size), done(0)], size)
        for size in (0, 65, 66, 128, 256, 320, 1000):
            told = ask(*calls, find(0, "A" * size, 0), often(0, "A" * size))
            self.assertEqual(told[1:], [done(-2), done(-2)], size)

    def test_bytes_that_are_no_signs(self):
        for byte in range(256):
            if chr(byte) not in SIGNS:
                told = ask(row(SIGNS), find(0, [byte], 0), often(0, [byte]), find(0, [65, byte], 0))
                self.assertEqual(told[1:], [done(0), listed(0), done(0)], byte)

    def test_a_sign_that_cannot_stand_with_this_m(self):
        self.assertEqual(ask(start(5), row("A+A"), find(0, "|", 0), often(0, "|"))[2:], [done(0), listed(0)])

    def test_what_is_no_row_is_found_all_the_same(self):
        self.assertEqual(ask(row("A[B]A"), find(0, "]A", 0), find(0, "[B", 0), often(0, "]"))[1:],
                         [found(3), found(1), listed(1)])

    def test_refusals_in_their_order(self):
        for bad in ("", "A" * 65):
            told = ask(read(DOUBLED), find(64, bad, 0), often(64, bad), find(65, bad, 0), often(65, bad),
                       find(63, bad, 0), often(63, bad))
            self.assertEqual(told[1:], [done(-2)] * 2 + [done(-1)] * 2 + [done(-2)] * 2)
        told = ask(read(DOUBLED), find(64, "A", 0), often(64, "A"), find(64, "=", BIG), find(BIG, "A", 0),
                   often(BIG, "A"), write())
        self.assertEqual(told[1:], [done(-7)] * 3 + [done(-1)] * 2 + [(len(DOUBLED), [], DOUBLED)])

    def test_refused_ones_take_their_numbers_too(self):
        calls = [9, 0, 0, 0, 10, 0, 0, 9, 65, 0, 1, 5, 10, 65, 2, 5, 5, 5]
        self.assertEqual(answers(calls), [1, -2, 1, -2, 1, -1, 1, -1, 6, 3, 0, 3, 52, 10, 10])


class ByChance(unittest.TestCase):
    def test_them(self):
        chance = random.Random(61)
        for turn in range(150):
            text = "".join(chance.choice("AAB+") for sign in range(chance.randrange(30)))
            seen = Seen(4, text)
            calls = [row(text)]
            right = [done(0)]
            for asked in range(20):
                w = "".join(chance.choice("AAB+") for sign in range(chance.randrange(1, 5)))
                first = chance.randrange(len(text) + 2)
                calls += [find(0, w, first), often(0, w)]
                right += [seen.find(w, first), seen.often(w)]
            self.assertEqual(ask(*calls), right)


if __name__ == "__main__":
    unittest.main()
