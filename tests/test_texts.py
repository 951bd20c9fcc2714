"""read and write: a world's text, its fault, and that what is written is read back."""

import random
import re
import unittest

from helper import (LETTERS, SIGNS, TURN_COUNTS, ask, done, fault, last, length, listed, read, row, rule, slice_of,
                    start, text_told, write)

NO_LETTERS = [chr(byte) for byte in range(256) if chr(byte) not in LETTERS]


def is_row(text, m):
    if len(text) > 255 or any(sign not in SIGNS for sign in text) or ("|" in text and m % 2):
        return False
    brackets = re.sub(r"[^][]", "", text)
    while "[]" in brackets:
        brackets = brackets.replace("[]", "")
    return brackets == ""


def is_world(text):
    """By the document's words for a whole text, not byte by byte."""
    lines = text.split("\n")
    if len(lines) < 3 or lines.pop() != "" or lines[0] not in [str(m) for m in TURN_COUNTS]:
        return False
    letters = [line[:1] for line in lines[2:]]
    rows = [lines[1]] + [line[2:] for line in lines[2:]]
    return (all(is_row(text, int(lines[0])) for text in rows)
            and all(line[1:2] == "=" and line[0] in LETTERS for line in lines[2:])
            and letters == sorted(set(letters)))


def begins_world(text):
    """Whatever has a text behind it at all has one of these."""
    line = text.split("\n")[-1]
    back = "]" * max(0, line.count("[") - line.count("]"))
    return any(is_world(text + behind) for behind in ("", back + "\n", "=\n", "\n\n", "0\n\n", "3\n\n"))


def seen_fault(text):
    """The document's fault, tried out on each beginning of the text; None of a world's text."""
    if is_world(text):
        return None
    for place in range(len(text)):
        if not begins_world(text[:place + 1]):
            return place
    return len(text)


class Held(unittest.TestCase):
    def read_back(self, text):
        self.assertEqual(ask(read(text), write()), [done(0), text_told(text)])

    def test_each_m(self):
        for m in TURN_COUNTS:
            self.read_back(f"{m}\n\n")

    def test_rows_and_rules(self):
        self.read_back("4\nA-A\nA=A+A-A\n")
        self.read_back("12\n[A|[>]]b\nA=\nZ=[]\na=|\nz=zZ\n")
        self.read_back("5\n\nB=\n")
        self.read_back("4\n" + "[" * 127 + "A" + "]" * 127 + "\nq=" + "A" * 255 + "\n")

    def test_each_letter_has_a_rule(self):
        self.read_back("10\n" + SIGNS + "\n" + "".join(f"{letter}={SIGNS}\n" for letter in LETTERS))

    def test_the_longest_world(self):
        text = "12\n" + "A" * 255 + "\n" + "".join(f"{letter}=" + "+" * 255 + "\n" for letter in LETTERS)
        self.assertEqual(len(text), 13675)
        self.read_back(text)

    def test_it_is_the_world_now(self):
        told = ask(start(6), row("C"), rule("C", "CC"), rule("A", "C"), length(2), read("5\nA\nA=AAA\n"), write(),
                   length(2), row("|"), row("C"), length(2))
        self.assertEqual(told[4:], [listed(4), done(0), text_told("5\nA\nA=AAA\n"), listed(9), done(-3), done(0),
                                    listed(1)])

    def test_what_is_behind_it_is_taken_from_there(self):
        told = ask(read("6\nA\nB=b\n"), rule("A", "B|"), row("AB"), write(), slice_of(1, 0, 99))
        self.assertEqual(told[1:], [done(0), done(0), text_told("6\nAB\nA=B|\nB=b\n"), text_told("B|b")])


class Write(unittest.TestCase):
    def test_a_new_object(self):
        self.assertEqual(ask(write()), [text_told("4\n\n")])

    def test_letters_rise_by_their_bytes(self):
        calls = [rule(letter, letter + "+") for letter in "zaZAmM"]
        self.assertEqual(last(*calls, write()), text_told("4\n\nA=A+\nM=M+\nZ=Z+\na=a+\nm=m+\nz=z+\n"))

    def test_all_that_was_called(self):
        told = last(start(12), row("A[|A]"), rule("A", "A>[-A]"), rule("b", ""), write())
        self.assertEqual(told, text_told("12\nA[|A]\nA=A>[-A]\nb=\n"))

    def test_it_changes_nothing(self):
        told = ask(row("A"), rule("A", "BA"), write(), write(), length(4))
        self.assertEqual(told[2:], [text_told("4\nA\nA=BA\n")] * 2 + [listed(5)])


class Faults(unittest.TestCase):
    def at(self, place, text):
        self.assertEqual(ask(read(text), write()), [fault(place), text_told("4\n\n")], text)
        self.assertEqual(seen_fault(text), place, text)

    def test_the_documents_examples(self):
        self.at(1, "13")
        self.at(3, "4\n[\n")

    def test_a_wrong_number(self):
        for text in ("0", "2", "7", "9", "A", " 4\n\n", "\n", "-4\n\n", "+4\n\n", "\x00", "\xff"):
            self.at(0, text)
        for text in ("13\n\n", "11", "1\n\n", "14", "1A", "04"):
            self.at(0 if text == "04" else 1, text)

    def test_a_numbers_end(self):
        for text in ("44\n\n", "30", "4A\n\n", "4 \n\n", "5=", "61", "8\r\n\n"):
            self.at(1, text)
        for text in ("100\n\n", "122", "10A", "12 \n", "120"):
            self.at(2, text)

    def test_only_not_at_its_end(self):
        for text in ("", "4", "1", "10", "12", "3\n", "10\n", "4\nA", "4\n[", "4\n[[]", "4\nA\nA", "4\nA\nA=",
                     "4\nA\nA=[A", "4\nA\nA=[A]", "12\n\nA=\nB", "12\n\nz", "4\n" + "A" * 255,
                     "4\n" + "[" * 127, "4\n\na=" + "A" * 255):
            self.at(len(text), text)

    def test_each_beginning_of_a_text(self):
        text = "12\nA[|[]B]\nA=A[+]\nB=\nz=[[]]>\n"
        whole = [len("12\nA[|[]B]\n"), len("12\nA[|[]B]\nA=A[+]\n"), len("12\nA[|[]B]\nA=A[+]\nB=\n"), len(text)]
        for size in range(len(text) + 1):
            answer = done(0) if size in whole else fault(size)
            self.assertEqual(last(read(text[:size])), answer)

    def test_no_sign(self):
        for byte in range(256):
            if chr(byte) not in SIGNS + "\n":
                self.at(2, "4\n" + chr(byte) + "\n")
                self.at(4, "4\nA[" + chr(byte) + "]\n")
                self.at(6, "4\n\na=A" + chr(byte) + "\n")

    def test_back_without_keep(self):
        self.at(2, "4\n]\n")
        self.at(4, "4\n[]]\n")
        self.at(5, "4\n\nA=]\n")
        self.at(7, "4\n[]\nA=]\n")
        self.at(4, "4\n[A\n]\n")

    def test_kept_at_a_lines_end(self):
        self.at(4, "4\n[A\n")
        self.at(8, "4\n\nA=[][\n")
        self.at(5, "4\n[[]\n]\n")

    def test_more_are_kept_than_can_be_closed(self):
        self.at(2 + 127, "4\n" + "[" * 128)
        self.at(2 + 127, "4\n" + "[" * 128 + "]" * 128 + "\n")
        self.at(5 + 127, "4\n\nb=" + "[" * 128)
        self.at(2 + 254, "4\n" + "A" * 254 + "[")
        self.at(2 + 254, "4\n" + "A" * 253 + "[[")
        self.at(2 + 128, "4\n" + "[" * 127 + "AA")
        self.at(2 + 128, "4\n" + "[" * 127 + "A[")
        self.at(2 + 254, "4\n[" + "A" * 254 + "]\n")

    def test_a_row_that_is_too_long(self):
        self.at(2 + 255, "4\n" + "A" * 256 + "\n")
        self.at(2 + 255, "4\n" + "A" * 255 + "]")
        self.at(2 + 255, "4\n" + "[" + "A" * 253 + "]" + "A\n")
        self.at(5 + 255, "4\n\nb=" + "+" * 256)

    def test_half_a_round_with_m_odd(self):
        self.at(2, "3\n|\n")
        self.at(4, "5\nA[|]\n")
        self.at(6, "5\n\nA=A|\n")
        self.at(5, "3\n\nA=|")
        for m in (4, 6, 8, 10, 12):
            self.assertEqual(last(read(f"{m}\n|\nA=|\n")), done(0))

    def test_the_last_line_feed(self):
        self.at(2, "4\n")
        self.at(3, "4\nA")
        self.at(7, "4\nA\nA=A")

    def test_letters_that_do_not_rise(self):
        self.at(8, "4\n\nB=CA\nA=A\n")
        self.at(6, "4\n\nA=\nA=\n")
        self.at(6, "4\n\na=\nZ=\n")
        self.at(6, "4\n\nz=\nz=\n")
        self.at(9, "4\n\nA=\nC=\nB")

    def test_no_letter_ahead_of_a_rule(self):
        for sign in NO_LETTERS:
            self.at(3, "4\n\n" + sign + "=A\n")
            self.at(6, "4\n\nA=\n" + sign)

    def test_nothing_stands_behind_the_rule_of_z(self):
        for byte in range(256):
            self.at(6, "4\n\nz=\n" + chr(byte))

    def test_equals_is_missing(self):
        for text in ("4\n\nAA=\n", "4\n\nA\n", "4\n\nA:A\n", "4\n\nA =A\n", "4\n\nA+"):
            self.at(4, text)

    def test_an_equals_too_many(self):
        self.at(5, "4\n\nA==\n")
        self.at(2, "4\n=\n")

    def test_more_than_65536_bytes(self):
        for text in ("4" * 65537, "4\n\n" + "A" * 65534, "[" * 66000):
            self.assertEqual(ask(read(text), write()), [done(-1), text_told("4\n\n")])

    def test_65536_bytes(self):
        self.at(1, "4" * 65536)
        self.at(2 + 255, "4\n" + "A" * 65534)


class ByChance(unittest.TestCase):
    """Texts that are nearly worlds' texts, beside the fault as tried out on each beginning."""

    def some_row(self, chance, m):
        signs = LETTERS[:4] + LETTERS[-3:] + ">+-" + ("|" if m % 2 == 0 else "")
        text = ""
        for step in range(chance.choice((0, 1, 2, 5, 9))):
            inner = "".join(chance.choice(signs) for sign in range(chance.randrange(3)))
            text = chance.choice((text + inner, inner + text, "[" + text + inner + "]"))
        return text + chance.choice(("", "", "", "A" * (255 - len(text)), "[" * ((255 - len(text)) // 2)))

    def some_text(self, chance):
        m = chance.choice(TURN_COUNTS)
        text = f"{m}\n{self.some_row(chance, m)}\n"
        letters = sorted(chance.sample(LETTERS, chance.randrange(4)))
        return text + "".join(f"{letter}={self.some_row(chance, m)}\n" for letter in letters)

    def harmed(self, chance, text):
        for step in range(chance.choice((0, 0, 1, 1, 2))):
            place = chance.randrange(len(text) + 1)
            put = chance.choice(("", "", "\n", "[", "]", "|", "=", "A", "z", "0", "?", chr(chance.randrange(256))))
            text = text[:place] + put + text[place + chance.randrange(2):]
        return text

    def test_faults(self):
        chance = random.Random(20)
        held = 0
        for turn in range(1500):
            text = self.harmed(chance, self.some_text(chance))
            place = seen_fault(text)
            if place is None:
                held += 1
                self.assertEqual(ask(read(text), write()), [done(0), text_told(text)])
            else:
                self.assertEqual(ask(read(text), write()), [fault(place), text_told("4\n\n")], text)
        self.assertTrue(200 < held < 1300, held)

    def test_what_is_written_is_read_back_and_written_the_same(self):
        chance = random.Random(21)
        for turn in range(300):
            m = chance.choice(TURN_COUNTS)
            calls = [start(m), row(self.some_row(chance, m))]
            for letter in chance.sample(LETTERS, chance.randrange(8)):
                calls.append(rule(letter, self.some_row(chance, m)))
            text = last(*calls, write())[2]
            self.assertTrue(is_world(text), text)
            self.assertEqual(ask(start(5), read(text), write())[1:], [done(0), text_told(text)])


if __name__ == "__main__":
    unittest.main()
