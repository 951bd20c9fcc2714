"""How calls and answers stand in their lists (The interface)."""

import unittest

from helper import (ask, count, done, drawn, far, find, joined, length, meets, often, parts, read, round_of, row,
                    rule, slice_of, start, text_told, walk, where, write)
from pentrail.world import NoSuchCall, answers


class Form(unittest.TestCase):
    def test_a_refusal_with_a_list_has_its_counts_too(self):
        self.assertEqual(answers([4, 2, 49, 51]), [4, -3, 1, 1, 0])
        self.assertEqual(answers([4, 4, 52, 10, 91, 10]), [4, -3, 1, 3, 0])

    def test_a_text_alone(self):
        self.assertEqual(answers([5]), [6, 3, 0, 3, 52, 10, 10])

    def test_a_number_alone(self):
        self.assertEqual(answers([6, 65]), [1, -1])
        self.assertEqual(answers([1, 5]), [1, 0])
        self.assertEqual(answers([8, 0, 0, 5]), [1, 0])

    def test_a_list_of_one_0_is_no_empty_list(self):
        self.assertEqual(answers([6, 0]), [4, 0, 1, 0, 0])

    def test_several_calls_one_behind_another(self):
        calls = [2, 3, 65, 45, 65, 3, 65, 5, 65, 43, 65, 45, 65, 8, 1, 0, 100]
        told = [1, 0, 1, 0, 14, 11, 0, 11, 65, 43, 65, 45, 65, 45, 65, 43, 65, 45, 65]
        self.assertEqual(answers(calls), told)

    def test_each_call_takes_just_its_own_numbers(self):
        calls = [1, 6, 2, 1, 65, 3, 65, 0, 4, 3, 53, 10, 10, 5, 6, 0, 7, 0, 65, 8, 0, 0, 1, 5]
        text = [6, 3, 0, 3, 53, 10, 10]
        told = [1, 0, 1, 0, 1, 0, 1, 0] + text + [4, 0, 1, 0, 0, 4, 0, 1, 0, 0, 1, 0] + text
        self.assertEqual(answers(calls), told)

    def test_refused_calls_take_their_numbers_too(self):
        calls = [1, 7, 2, 1, 93, 3, 5, 2, 6, 0, 3, 65, 1, 93, 4, 1, 49, 6, 65, 7, 65, 0, 8, 65, 0, 10001, 5]
        told = [1, -1, 1, -3, 1, -1, 1, -3, 4, -3, 1, 1, 0, 1, -1, 1, -1, 1, -1, 6, 3, 0, 3, 52, 10, 10]
        self.assertEqual(answers(calls), told)

    def test_each_of_the_last_eight_takes_just_its_own_numbers(self):
        calls = [2, 2, 65, 65, 9, 0, 1, 1, 65, 5, 10, 0, 1, 65, 5, 11, 0, 1, 5, 12, 0, 1, 5,
                 13, 0, 1, 5, 14, 0, 5, 15, 0, 5, 5, 16, 0, 1, 5, 5]
        text = [8, 5, 0, 5, 52, 10, 65, 65, 10]
        told = [1, 0, 4, 1, 1, 1, 0] + text + [4, 0, 1, 2, 0] + text + [11, 0, 8, 1, 0, 0, 0, 0, 0, 1, 1, 0] + text
        told += [4, 0, 1, 1, 0] + text + [8, 0, 5, 0, 0, 0, 0, 0, 0] + text + [7, 0, 4, 0, 0, 0, 0, 0] + text
        told += [1, 0] + text + [12, 1, 9, 1, 1, 0, 0, 0, 0, 0, 1, 1, 0] + text
        self.assertEqual(answers(calls), told)

    def test_the_last_eight_refused_take_their_numbers_too(self):
        calls = [9, 65, 1, 2, 5, 5, 10, 65, 1, 5, 11, 65, 5, 12, 65, 5, 13, 65, 5, 14, 65, 15, 65, 5, 16, 65, 5, 5, 5]
        self.assertEqual(answers(calls), [1, -1] * 8 + [6, 3, 0, 3, 52, 10, 10])

    def test_kinds(self):
        told = answers(joined([start(10), row("A+A"), rule("A", "A-A"), length(9), count(1, "A"), slice_of(1, 0, 9),
                               write(), read("13"), find(1, "A", 0), often(1, "A"), where(1, 3), drawn(1, 3), far(1, 2),
                               round_of(1), meets(1, 9), walk(1, 1, 9), meets(0, 1001), where(0, 9)]))
        self.assertIs(type(told), list)
        for number in told:
            self.assertIs(type(number), int)

    def test_a_number_that_is_no_call(self):
        for number in (0, 17, 18, 4294967295):
            self.assertRaises(NoSuchCall, answers, [5, number, 0, 0, 0, 0])

    def test_a_list_of_400_calls(self):
        self.assertEqual(answers([5] * 400), [6, 3, 0, 3, 52, 10, 10] * 400)

    def test_a_text_of_29998_bytes(self):
        self.assertEqual(ask(row("A" * 29998)), [done(-3)])
        self.assertEqual(ask(read("4\n\n" + "A" * 29995)), [(-3, [4], "")])
        self.assertEqual(ask(row("[" * 29998)), [done(-3)])


class NothingElseIsTouched(unittest.TestCase):
    CALLS = joined([row("A[+A]b"), rule("A", "A-A"), rule("b", ""), write(), length(5), slice_of(2, 1, 9),
                    find(2, "A-", 1), often(2, "-A"), where(2, 5), drawn(2, 3), far(2, 7), round_of(2), meets(2, 9),
                    walk(2, 1, 9), read("12\n[|]\nZ=zz\n"), rule("z", "A"), row("ZZ"), write(), find(2, "A", 0),
                    walk(2, 0, 9), start(5), write(), where(0, 0)])

    def test_what_is_handed_in_is_the_same_behind_the_call(self):
        calls = list(self.CALLS)
        answers(calls)
        self.assertEqual(calls, self.CALLS)

    def test_what_is_handed_in_is_not_changed_for_a_while_either(self):
        class Watched(list):
            def refuse(self, *arguments, **named):
                raise AssertionError("the list that was handed in is changed")

            append = extend = insert = pop = remove = clear = sort = reverse = refuse
            __setitem__ = __delitem__ = __iadd__ = __imul__ = refuse

        self.assertEqual(answers(Watched(self.CALLS)), answers(list(self.CALLS)))

    def test_the_answer_is_another_list_each_time(self):
        first = answers(list(self.CALLS))
        kept = list(first)
        first.append(1)
        first[0] = 99
        self.assertEqual(answers(list(self.CALLS)), kept)

    def test_one_list_of_calls_knows_nothing_of_another(self):
        new = answers([5, 6, 3])
        answers(self.CALLS)
        answers(joined([start(12), row("AAA"), rule("A", "AA")]))
        self.assertEqual(answers([5, 6, 3]), new)
        self.assertEqual(new, [6, 3, 0, 3, 52, 10, 10, 4, 0, 1, 0, 0])

    def test_an_object_is_new_at_the_beginning_alone(self):
        self.assertEqual(ask(row("A"), write(), write())[1:], [text_told("4\nA\n")] * 2)
        self.assertEqual(len(parts(answers(self.CALLS))), 23)

    def test_asking_again_is_answered_again(self):
        calls = [find(2, "A-", 1), often(2, "-A"), where(2, 5), drawn(2, 3), far(2, 7), round_of(2), meets(2, 9),
                 walk(2, 1, 9), slice_of(2, 0, 99), write()]
        told = ask(row("A[+A]b"), rule("A", "A-A"), *calls, *calls)
        self.assertEqual(told[2:12], told[12:])

    def test_what_is_asked_behind_a_change_is_of_the_world_now(self):
        calls = [find(1, "A", 0), often(1, "A"), where(1, 2), drawn(1, 0), far(1, 1), round_of(1), meets(1, 9),
                 walk(1, 0, 9)]
        worlds = ([row("A+A+A")], [rule("A", "bA")], [start(3), row("A+A+A")], [read("8\n+A\nA=AA[A]\n")], [row("")],
                  [start(6)])
        told = ask(*[call for changes in worlds for call in changes + calls])
        self.assertEqual(told[1:9], ask(row("A+A+A"), *calls)[1:])
        self.assertEqual(told[10:18], ask(row("A+A+A"), rule("A", "bA"), *calls)[2:])
        self.assertEqual(told[20:28], ask(start(3), row("A+A+A"), *calls)[2:])
        self.assertEqual(told[29:37], ask(start(8), row("+A"), rule("A", "AA[A]"), *calls)[3:])
        self.assertEqual(told[38:46], ask(*calls))
        self.assertEqual(told[47:], ask(*calls))


if __name__ == "__main__":
    unittest.main()
