"""The interface: calls one behind another, and what is handed in stays as it was."""

import unittest

from asking import BEGIN, ask_all, codes, handed, order, read, text, under, wire, wire_of
from labelpack.desk import answers

BAD_NAME = [64] + [0] * 254


def one_of_each():
    org = handed(wire("org"))
    return [
        read(0, wire("a")),
        text(3, org),
        wire_of(codes("b.c")),
        order(org, handed(wire("a", "org"))),
        under(org, org),
        list(BEGIN),
    ]


def answers_of_each():
    return [
        [3, 1, 97, 0, 3],
        [4] + codes("org"),
        [5, 1, 98, 1, 99, 0],
        [-1],
        [1],
        [0],
    ]


def refused_of_each():
    good = handed(wire("a"))
    return [read(9, [0]), text(0, BAD_NAME), text(1025, good), wire_of([]), order(BAD_NAME, good), under(good, BAD_NAME)]


class Lines(unittest.TestCase):
    def test_begin_alone(self):
        self.assertEqual(answers([5]), [1, 0])

    def test_begin_again(self):
        self.assertEqual(answers([5, 5, 5]), [1, 0, 1, 0, 1, 0])

    def test_counts_stand_before_the_answers(self):
        self.assertEqual(answers([5] + read(0, [0]) + wire_of([46]) + [5]), [1, 0, 3, 1, 0, 1, 2, 1, 0, 1, 0])

    def test_fewer_bytes_than_told_follow(self):
        self.assertEqual(answers([5] + text(1, handed(wire("ab")))), [1, 0, 2, 3, 97])

    def test_calls_of_every_kind(self):
        self.assertEqual(ask_all(*one_of_each()), answers_of_each())

    def test_every_call_behind_every_refusal(self):
        for refused in refused_of_each():
            for call, expected in zip(one_of_each(), answers_of_each()):
                told = ask_all(refused, call)
                self.assertLess(told[0][0], 0)
                self.assertEqual(len(told[0]), 1)
                self.assertEqual(told[1], expected)

    def test_300_calls(self):
        self.assertEqual(ask_all(*[wire_of([97])] * 299), [[3, 1, 97, 0]] * 299)

    def test_as_long_as_a_line_may_be(self):
        msg = [1, 65] * 14996 + [0]
        line = BEGIN + read(29990, msg)
        self.assertLessEqual(len(line), 30000)
        self.assertEqual(answers(line), [1, 0, 5, 3, 1, 65, 0, 29993])

    def test_whole_numbers_are_ints(self):
        line = list(BEGIN)
        for call in one_of_each() + refused_of_each():
            line += call
        told = answers(line)
        self.assertIs(type(told), list)
        self.assertEqual({type(number) for number in told}, {int})


class NothingIsKept(unittest.TestCase):
    def test_what_is_handed_in_stays(self):
        for call in one_of_each() + refused_of_each():
            line = BEGIN + call
            before = list(line)
            answers(line)
            self.assertEqual(line, before)

    def test_pointers_leave_the_message_as_it_was(self):
        msg = wire("org") + [1, 97, 192, 0]
        line = BEGIN + read(5, msg) + read(5, msg)
        before = list(line)
        first, second = ask_all(read(5, msg), read(5, msg))
        self.assertEqual(first, second)
        answers(line)
        self.assertEqual(line, before)

    def test_second_time_as_the_first(self):
        for call in one_of_each() + refused_of_each():
            line = BEGIN + call
            self.assertEqual(answers(line), answers(line))

    def test_what_is_given_back_is_new(self):
        line = BEGIN + wire_of([97])
        first = answers(line)
        first.clear()
        self.assertEqual(answers(line), [1, 0, 4, 3, 1, 97, 0])

    def test_a_call_changes_no_other(self):
        calls = one_of_each()
        self.assertEqual(ask_all(*calls, *calls), answers_of_each() * 2)
        self.assertEqual(ask_all(*reversed(calls)), answers_of_each()[::-1])


if __name__ == "__main__":
    unittest.main()
