"""start, row and rule: what they take, what they refuse, and that a refused one changes nothing."""

import unittest

from helper import (LETTERS, SIGNS, TURN_COUNTS, ask, count, done, fault, last, length, read, row, rule, slice_of,
                    start, text_told, write)

EVEN = (4, 6, 8, 10, 12)
ODD = (3, 5)
NO_SIGNS = [byte for byte in range(256) if chr(byte) not in SIGNS]
FAR_NUMBERS = (256, 256 + 65, 65536 + 65, 4294967295)


class Start(unittest.TestCase):
    def test_each_m_that_there_is(self):
        for m in TURN_COUNTS:
            self.assertEqual(ask(start(m), write()), [done(0), text_told(f"{m}\n\n")])

    def test_no_such_m(self):
        for m in (0, 1, 2, 7, 9, 11, 13, 14, 24, 255, 256 + 4, 65536 + 4, 4294967295):
            self.assertEqual(ask(start(m), write()), [done(-1), text_told("4\n\n")])

    def test_a_new_object_has_m_4(self):
        self.assertEqual(ask(write(), row("|")), [text_told("4\n\n"), done(0)])

    def test_row_and_rules_are_gone_behind_start(self):
        for m in (4, 5):
            calls = [row("AA"), rule("A", "AAA"), length(1), start(m), write(), length(0), length(1)]
            self.assertEqual(ask(*calls)[2:], [(0, [6], ""), done(0), text_told(f"{m}\n\n"), (0, [0], ""),
                                               (0, [0], "")])

    def test_a_rule_from_before_start_does_not_come_back(self):
        self.assertEqual(last(rule("A", "AA"), start(4), row("A"), length(3)), (0, [1], ""))

    def test_refused_it_keeps_row_and_rules(self):
        calls = [start(6), row("A|"), rule("A", "A+"), write(), start(7), write(), length(2)]
        self.assertEqual(ask(*calls)[3:], [text_told("6\nA|\nA=A+\n"), done(-1), text_told("6\nA|\nA=A+\n"),
                                           (0, [4], "")])


class Rows(unittest.TestCase):
    """Of row and rule alike, since both take rows."""

    def held(self, text, m=4):
        told = ask(start(m), row(text), rule("k", text), write())
        self.assertEqual(told[1:], [done(0), done(0), text_told(f"{m}\n{text}\nk={text}\n")], (m, text))

    def refused(self, text, m=4):
        told = ask(start(m), row("A+"), rule("k", "B"), row(text), rule("k", text), rule("j", text), write())
        self.assertEqual(told[3:], [done(-3)] * 3 + [text_told(f"{m}\nA+\nk=B\n")], (m, text))

    def test_empty(self):
        self.held("")

    def test_each_sign(self):
        for sign in LETTERS + ">+-|":
            self.held(sign)
        self.held("[]")
        self.held(SIGNS)

    def test_no_signs(self):
        for byte in NO_SIGNS:
            self.refused(chr(byte))
            self.refused("A" + chr(byte))
            self.refused(chr(byte) + "A")

    def test_half_a_round_only_if_m_is_even(self):
        for m in EVEN:
            self.held("|", m)
            self.held("A[|]|", m)
        for m in ODD:
            self.refused("|", m)
            self.refused("A[|]", m)
            self.held("A[+-]>", m)

    def test_paired(self):
        for text in ("[]", "[][]", "[[]]", "A[+B[-C]]d", "[[][[]]]"):
            self.held(text)

    def test_unpaired(self):
        for text in ("[", "]", "][", "[]]", "[[]", "[]][", "A]", "[A", "]A[", "[[]][", "[]][[]"):
            self.refused(text)

    def test_255_signs_and_256(self):
        self.held("A" * 255)
        self.refused("A" * 256)
        self.held("[" * 127 + "]" * 127 + "A")
        self.held("A" + "[" * 127 + "]" * 127)
        self.held("[" * 127 + "+" + "]" * 127)
        self.refused("[" * 128 + "]" * 128)
        self.refused("[" * 127 + "AA" + "]" * 127)
        self.held("A" * 253 + "[]")
        self.refused("A" * 254 + "[]")
        self.refused("A" * 254 + "[")
        self.refused("[" * 128 + "]" * 127)
        self.refused("[" * 255)

    def test_a_new_row_stands_in_the_place_of_the_one_before(self):
        self.assertEqual(last(row("AAA"), length(0), row("B"), length(0)), (0, [1], ""))
        self.assertEqual(last(row("AAA"), row(""), write()), text_told("4\n\n"))


class Rule(unittest.TestCase):
    def test_each_letter(self):
        for letter in LETTERS:
            self.assertEqual(ask(rule(letter, "A+"), write()), [done(0), text_told(f"4\n\n{letter}=A+\n")])

    def test_no_letter(self):
        for byte in [byte for byte in range(256) if chr(byte) not in LETTERS]:
            self.assertEqual(ask(rule(byte, "A"), write()), [done(-1), text_told("4\n\n")])

    def test_a_number_above_a_byte_is_no_letter(self):
        for number in FAR_NUMBERS:
            self.assertEqual(ask(rule(number, "A"), write()), [done(-1), text_told("4\n\n")])

    def test_no_letter_is_told_ahead_of_no_row(self):
        self.assertEqual(ask(rule("+", "]"), rule(256, "|["), rule("A", "]")), [done(-1), done(-1), done(-3)])

    def test_a_new_rule_stands_in_the_place_of_the_one_before(self):
        calls = [row("A"), rule("A", "AA"), length(3), rule("A", "AAA"), length(3), write()]
        self.assertEqual(ask(*calls)[2:], [(0, [8], ""), done(0), (0, [27], ""), text_told("4\nA\nA=AAA\n")])

    def test_an_empty_rule_is_a_rule(self):
        calls = [row("AbA"), rule("A", ""), write(), slice_of(1, 0, 9)]
        self.assertEqual(ask(*calls)[2:], [text_told("4\nAbA\nA=\n"), text_told("b")])

    def test_a_rule_changes_what_was_asked_before(self):
        calls = [row("AB"), length(2), count(2, "B"), rule("A", "BB"), length(2), count(2, "B")]
        self.assertEqual([told[1] for told in ask(*calls)], [[], [2], [1], [], [3], [3]])

    def test_a_row_changes_what_was_asked_before(self):
        calls = [rule("A", "BB"), row("A"), length(2), row("AAB"), length(2), count(1, "B")]
        self.assertEqual([told[1] for told in ask(*calls)], [[], [], [2], [], [5], [5]])


class Refused(unittest.TestCase):
    """A refused call changes nothing."""

    WORLD = "6\nA[|B]>\nA=AB\nB=\nz=[]\n"
    CALLS = [
        (start(0), done(-1)), (start(7), done(-1)), (start(4294967295), done(-1)),
        (row("["), done(-3)), (row("A="), done(-3)), (row("A" * 256), done(-3)),
        (rule("=", "A"), done(-1)), (rule(65 + 256, "A"), done(-1)), (rule("A", "]"), done(-3)),
        (rule("q", "?"), done(-3)), (rule("z", "B" * 256), done(-3)),
        (read(""), fault(0)), (read("4\nA\nA=AA\nB"), fault(10)), (read("5\n|\n"), fault(2)),
        (read("12\nA\nB=A\nA=B\n"), fault(9)), (read("\n" * 65537), done(-1)),
        (length(65), done(-1)), (count(65, "A"), done(-1)), (count(1, "="), done(-2)),
        (slice_of(65, 0, 1), done(-1)), (slice_of(1, 0, 10001), done(-2)),
    ]

    def test_each(self):
        for call, answer in self.CALLS:
            told = ask(read(self.WORLD), length(3), call, write(), length(3), slice_of(2, 0, 99))
            self.assertEqual(told[2:], [answer, text_told(self.WORLD), told[1], text_told("AB[|]>")])

    def test_all_one_behind_another(self):
        told = ask(read(self.WORLD), *[call for call, answer in self.CALLS], write())
        self.assertEqual(told[1:-1], [answer for call, answer in self.CALLS])
        self.assertEqual(told[-1], text_told(self.WORLD))

    def test_a_new_object_stays_new(self):
        told = ask(*[call for call, answer in self.CALLS], write())
        self.assertEqual(told[-1], text_told("4\n\n"))

    def test_one_that_does_not_fit(self):
        world = "4\nA\nA=AA\n"
        told = ask(read(world), length(64), count(64, "A"), slice_of(64, 0, 1), write(), length(63))
        self.assertEqual(told[1:], [done(-7)] * 3 + [text_told(world), (0, [2 ** 63], "")])


if __name__ == "__main__":
    unittest.main()
