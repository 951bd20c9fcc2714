"""length, count and slice: what one sees who goes along all the signs of a generation."""

import random
import unittest

from helper import (BIG, DOUBLED, LETTERS, SIGNS, ask, count, done, last, length, listed, read, row, rule, slice_of,
                    start, text_told, write)

# Generation g has 2^g A and 2^g - 1 b.
ALL_BUT_ONE = "4\nA\nA=AAb\n"
# Each of A to I becomes the next letter 255 times and J becomes nothing: generation 9 doesn't fit, 10 is + alone.
LETTERS_DOWN = "".join(f"{LETTERS[k]}={LETTERS[k + 1] * 255}\n" for k in range(9))
ERASED = "4\nA+\n" + LETTERS_DOWN + "J=\n"
NO_SIGNS = [byte for byte in range(256) if chr(byte) not in SIGNS]
FAR_NUMBERS = (256, 256 + 65, 65536 + 65, 4294967295)


class Length(unittest.TestCase):
    def test_the_first_row(self):
        self.assertEqual(ask(length(0), row("A[+A]"), length(0))[::2], [listed(0), listed(5)])

    def test_some_generations(self):
        told = ask(row("A-A"), rule("A", "A+A-A"), *[length(g) for g in range(5)])
        self.assertEqual(told[2:], [listed(3), listed(11), listed(35), listed(107), listed(323)])

    def test_letters_without_a_rule_and_other_signs_stay(self):
        told = ask(row("aB[c]|>"), rule("A", "BB"), length(0), length(1), length(64))
        self.assertEqual(told[2:], [listed(7)] * 3)

    def test_all_letters_are_replaced_at_once(self):
        told = ask(row("AB"), rule("A", "B"), rule("B", "AA"), *[length(g) for g in range(6)])
        self.assertEqual([answer[1] for answer in told[3:]], [[2], [3], [4], [6], [8], [12]])

    def test_shorter_ones(self):
        told = ask(row("AAB"), rule("A", ""), rule("B", "BA"), *[length(g) for g in (0, 1, 2, 64)])
        self.assertEqual(told[3:], [listed(3), listed(2), listed(2), listed(2)])

    def test_g_64_and_65(self):
        told = ask(row("A"), rule("A", "AB"), length(64), length(65), length(66), length(256), length(BIG))
        self.assertEqual(told[2:], [listed(65)] + [done(-1)] * 4)

    def test_g_in_any_order(self):
        told = ask(row("A"), rule("A", "AAB"), length(5), length(0), length(9), length(5), length(1))
        self.assertEqual(told[2:], [listed(63), listed(1), listed(1023), listed(63), listed(3)])


class Fits(unittest.TestCase):
    def test_the_longest_that_fits(self):
        told = ask(read(ALL_BUT_ONE), length(63), count(63, "A"), count(63, "b"), count(63, "+"), length(64))
        self.assertEqual(told[1:], [listed(2 ** 64 - 1), listed(2 ** 63), listed(2 ** 63 - 1), listed(0), done(-7)])

    def test_one_sign_more(self):
        told = ask(read(ALL_BUT_ONE), row("A+"), length(62), length(63), count(63, "A"), count(63, "+"))
        self.assertEqual(told[2:], [listed(2 ** 63), done(-7), done(-7), done(-7)])

    def test_2_to_the_64(self):
        told = ask(read(DOUBLED), length(63), length(64), count(64, "A"), count(64, "B"), count(63, "A"))
        self.assertEqual(told[1:], [listed(2 ** 63), done(-7), done(-7), done(-7), listed(2 ** 63)])

    def test_far_more(self):
        told = ask(row("A" * 255), rule("A", "A" * 255), length(7), length(8), length(9), length(64), count(64, "A"))
        self.assertEqual(told[2:], [listed(255 ** 8)] + [done(-7)] * 4)

    def test_signs_that_only_fit_one_by_one(self):
        calls = [row("A"), rule("A", "A[+]-Bc")]
        grown = [read("4\n" + "AB" * 4 + "\nA=BB\nB=AA\n"), length(60), length(61), count(60, "A"), count(61, "A")]
        self.assertEqual(ask(*grown)[1:], [listed(2 ** 63), done(-7), listed(2 ** 62), done(-7)])
        self.assertEqual(last(*calls, length(64)), listed(1 + 64 * 6))

    def test_behind_one_that_does_not(self):
        told = ask(read(ERASED), length(8), length(9), length(10), length(64), count(9, "J"), count(9, "+"),
                   count(10, "J"), count(10, "+"), length(9))
        self.assertEqual(told[1:], [listed(255 ** 8 + 1), done(-7), listed(1), listed(1), done(-7), done(-7),
                                    listed(0), listed(1), done(-7)])

    def test_asked_behind_alone(self):
        self.assertEqual(last(read(ERASED), length(10)), listed(1))
        self.assertEqual(last(read(ERASED), count(64, "+")), listed(1))

    def test_what_stays_is_counted_behind_it(self):
        told = ask(read(ERASED), rule("I", "J" * 254 + "k"), length(9), length(10), count(10, "k"))
        self.assertEqual(told[2:], [done(-7), listed(255 ** 8 + 1), listed(255 ** 8)])

    def test_it_is_refused_for_what_is_handed_over_first(self):
        told = ask(read(DOUBLED), length(65), length(64), count(65, 0), count(64, 0), count(64, "A"),
                   slice_of(65, 0, 10001), slice_of(64, 0, 10001), slice_of(64, 0, 10000))
        self.assertEqual(told[1:], [done(-1), done(-7), done(-1), done(-2), done(-7), done(-1), done(-2), done(-7)])


class Count(unittest.TestCase):
    def test_each_sign_at_0(self):
        for sign in SIGNS:
            self.assertEqual(last(row(SIGNS + "AA>[]"), count(0, sign)),
                             listed(1 + "AA>[]".count(sign)), sign)

    def test_each_sign_of_a_new_object(self):
        for sign in SIGNS:
            self.assertEqual(ask(count(0, sign), count(64, sign)), [listed(0), listed(0)])

    def test_each_sign_from_a_rule(self):
        for sign in SIGNS:
            told = ask(row("QQ"), rule("Q", "QQ" + SIGNS.replace("Q", "")), count(1, sign), count(10, sign))
            here = (4, 2048) if sign == "Q" else (2, 2 * 1023)
            self.assertEqual(told[2:], [listed(here[0]), listed(here[1])], sign)

    def test_no_sign(self):
        for byte in NO_SIGNS:
            self.assertEqual(last(row("A"), count(0, byte)), done(-2), byte)

    def test_numbers_far_above_a_byte(self):
        for number in FAR_NUMBERS:
            self.assertEqual(ask(count(0, number), count(64, number), count(65, number)),
                             [done(-2), done(-2), done(-1)])

    def test_g_above_64(self):
        self.assertEqual(ask(count(65, "A"), count(65, "="), count(BIG, "A")), [done(-1)] * 3)

    def test_an_erased_letter(self):
        told = ask(row("ABA"), rule("A", ""), count(0, "A"), count(1, "A"), count(1, "B"), length(1))
        self.assertEqual(told[2:], [listed(2), listed(0), listed(1), listed(1)])


class Slice(unittest.TestCase):
    def test_the_documents_example(self):
        told = ask(row("A-A"), rule("A", "A+A-A"), slice_of(1, 0, 100), slice_of(0, 0, 100))
        self.assertEqual(told[2:], [text_told("A+A-A-A+A-A"), text_told("A-A")])

    def test_parts(self):
        calls = [row("A-A"), rule("A", "A+A-A")]
        for first, n, text in ((0, 0, ""), (0, 1, "A"), (1, 3, "+A-"), (9, 2, "-A"), (9, 3, "-A"), (10, 1, "A"),
                               (10, 10000, "A"), (11, 1, ""), (12, 1, ""), (BIG, 1, ""), (BIG, 10000, ""),
                               (5, 0, ""), (11, 0, ""), (0, 11, "A+A-A-A+A-A"), (0, 10, "A+A-A-A+A-")):
            self.assertEqual(last(*calls, slice_of(1, first, n)), text_told(text), (first, n))

    def test_10000_and_10001(self):
        calls = [row("A" * 100), rule("A", "AB" + "[]" * 100)]
        self.assertEqual(last(*calls, slice_of(1, 0, 10000)), text_told((("AB" + "[]" * 100) * 100)[:10000]))
        self.assertEqual(last(*calls, slice_of(1, 10201, 10000)), text_told((("AB" + "[]" * 100) * 100)[10201:]))
        self.assertEqual(ask(*calls, slice_of(1, 0, 10001), slice_of(0, BIG, 10001), slice_of(0, 0, BIG))[2:],
                         [done(-2)] * 3)

    def test_g_above_64(self):
        self.assertEqual(ask(slice_of(65, 0, 1), slice_of(65, 0, 10001), slice_of(BIG, 0, 0)), [done(-1)] * 3)

    def test_a_new_object(self):
        self.assertEqual(ask(slice_of(0, 0, 10000), slice_of(64, 0, 1)), [done(0)] * 2)

    def test_g_64(self):
        told = last(row("aA"), rule("A", "[B]A"), slice_of(64, 185, 10))
        self.assertEqual(told, text_told("B]" + "[B]" * 2 + "A"))

    def test_erased(self):
        told = ask(row("A[B]A"), rule("A", ""), rule("B", "BA+"), slice_of(0, 0, 99), slice_of(1, 0, 99),
                   slice_of(2, 0, 99), slice_of(2, 3, 2))
        self.assertEqual(told[3:], [text_told("A[B]A"), text_told("[BA+]"), text_told("[BA++]"), text_told("++")])


class ByChance(unittest.TestCase):
    """Worlds by chance, beside their generations written out sign by sign."""

    def some_row(self, chance):
        text = "".join(chance.choice("AABCxyz>+-|") for sign in range(chance.randrange(5)))
        return chance.choice((text, text, "[" + text + "]", "A[" + text + "]" + text))

    def checked(self, chance, text, g):
        calls = [length(g), count(g, chance.choice(SIGNS)), count(g, "A")]
        seen = [listed(len(text)), listed(text.count(chr(calls[1][2]))), listed(text.count("A"))]
        for turn in range(3):
            first = chance.randrange(len(text) + 3)
            n = chance.choice((0, 1, 7, 200, 10000))
            calls.append(slice_of(g, first, n))
            seen.append(text_told(text[first:first + n]))
        return calls, seen

    def test_them(self):
        chance = random.Random(22)
        for turn in range(300):
            text = self.some_row(chance)
            rules = {letter: self.some_row(chance) for letter in chance.sample("ABCxyz", chance.randrange(6))}
            calls = [start(8), row(text)] + [rule(letter, rules[letter]) for letter in rules]
            seen = [done(0)] * len(calls)
            for g in range(7):
                if len(text) > 3000:
                    break
                asked, right = self.checked(chance, text, g)
                calls += asked
                seen += right
                text = "".join(rules.get(sign, sign) for sign in text)
            self.assertEqual(ask(*calls), seen)


class Heavy(unittest.TestCase):
    """length and count are told without writing the signs out; so many of them are no matter."""

    def test_a_list_full_of_them(self):
        rules = [rule(letter, SIGNS + "z") for letter in LETTERS]
        calls = rules + [row("A")] + [length(64), count(10, "A"), count(11, "A")] * 115
        told = ask(*calls)
        # Each letter gives 53 letters and 6 other signs; A stands once in each row.
        self.assertEqual(told[53:56], [done(-7), listed(53 ** 9), listed(53 ** 10)])
        self.assertEqual(told[53:], told[53:56] * 115)

    def test_with_a_change_between(self):
        rules = [rule(letter, SIGNS) for letter in LETTERS]
        calls = rules + [row("A"), write()]
        for turn in range(100):
            calls += [rule("B", "" if turn % 2 else "B"), length(64), length(1)]
        told = ask(*calls)
        self.assertEqual(told[54:], [done(0), done(-7), listed(58)] * 100)


if __name__ == "__main__":
    unittest.main()
