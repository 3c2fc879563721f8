"""The interface: calls one behind another, and what is handed in stays as it was."""

import unittest

from asking import (
    BEGIN, ListCase, ask_all, codes, handed, message_of, order, pointer, put, put_name, read, take, text, under,
    wire, wire_of,
)
from labelpack.desk import answers

BAD_NAME = [64] + [0] * 254


def one_of_each():
    org = handed(wire("org"))
    return [
        read(0, wire("a")),
        text(3, org),
        wire_of(codes("b.c")),
        order(org, handed(wire("a", "org"))),
        under(org, org),
        put([5, 6]),
        put_name(0, wire("org")),
        put_name(1, wire("org")),
        list(BEGIN),
        take(9),
    ]


def answers_of_each():
    return [
        [3, 1, 97, 0, 3],
        [4] + codes("org"),
        [5, 1, 98, 1, 99, 0],
        [-1],
        [1],
        [0],
        [0],
        [0],
        [0],
        [0],
    ]


def refused_of_each():
    good = handed(wire("a"))
    return [
        read(9, [0]),
        text(0, BAD_NAME),
        text(1025, good),
        wire_of([]),
        order(BAD_NAME, good),
        under(good, BAD_NAME),
        put_name(1, BAD_NAME),
        put_name(2, good),
        take(65536),
    ]


def calls_of_points_1_to_4():
    """These calls, answered and refused: none of them is about the message that's being made."""
    return one_of_each()[:5] + refused_of_each()[:6]


def a_message():
    """Calls that make a message of bytes, whole names and packed ones, and take it."""
    return [
        put([1, 2, 3]),
        put_name(0, wire("www", "org")),
        take(4),
        put_name(1, wire("a", "ORG")),
        put([]),
        put_name(1, wire("A", "org")),
        take(65535),
    ]


def answers_of_the_message():
    made = [1, 2, 3] + wire("www", "org") + [1, 97] + pointer(7) + pointer(12)
    return [[0], [0], [12] + made[:4], [0], [0], [0], [len(made)] + made]


def line_of(calls):
    line = list(BEGIN)
    for call in calls:
        line += call
    return line


class Lines(ListCase):
    def test_begin_alone(self):
        self.assertEqual(answers([5]), [1, 0])

    def test_begin_again(self):
        self.assertEqual(answers([5, 5, 5]), [1, 0, 1, 0, 1, 0])

    def test_counts_stand_before_the_answers(self):
        self.assertEqual(answers([5] + read(0, [0]) + wire_of([46]) + [5]), [1, 0, 3, 1, 0, 1, 2, 1, 0, 1, 0])

    def test_fewer_bytes_than_told_follow(self):
        self.assertEqual(answers([5] + text(1, handed(wire("ab")))), [1, 0, 2, 3, 97])

    def test_calls_of_every_kind(self):
        self.assertEqual(ask_all(*one_of_each()), answers_of_each())

    def test_every_call_behind_every_refusal(self):
        for refused in refused_of_each():
            for call, expected in zip(one_of_each(), answers_of_each()):
                told = ask_all(refused, call)
                self.assertLess(told[0][0], 0)
                self.assertEqual(len(told[0]), 1)
                self.assertEqual(told[1], expected)

    def test_a_message(self):
        self.assertEqual(ask_all(*a_message()), answers_of_the_message())

    def test_calls_of_points_1_to_4_leave_the_message(self):
        for other in calls_of_points_1_to_4():
            calls = []
            for call in a_message():
                calls += [other, call]
            self.assertEqual(ask_all(*calls)[1::2], answers_of_the_message())

    def test_names_that_were_only_read_are_no_ends(self):
        org = handed(wire("org"))
        others = [read(0, wire("org")), text(9, org), wire_of(codes("org")), order(org, org), under(org, org)]
        for other in others:
            told = ask_all(other, put_name(1, wire("org")), take(9))
            self.assertEqual(told[1:], [[0], [5] + wire("org")])

    def test_300_calls(self):
        self.assertEqual(ask_all(*[wire_of([97])] * 299), [[3, 1, 97, 0]] * 299)

    def test_as_long_as_a_line_may_be(self):
        msg = [1, 65] * 14996 + [0]
        line = BEGIN + read(29990, msg)
        self.assertLessEqual(len(line), 30000)
        self.assertEqual(answers(line), [1, 0, 5, 3, 1, 65, 0, 29993])

    def test_300_calls_for_the_message(self):
        *done, taken = ask_all(*[put([7] * 90)] * 297, put_name(1, wire("a")), take(65535))
        self.assertEqual(done, [[0]] * 298)
        self.assertEqual(taken, [26733] + [7] * 26730 + wire("a"))

    def test_as_many_names_as_a_line_may_hold(self):
        name = wire(*["a"] * 127)
        line = line_of([put_name(1, name)] * 116 + [take(65535)])
        self.assertLessEqual(len(line), 30000)
        self.assertEqual(answers(line)[2 * 117:], [486, 485] + name + pointer(0) * 115)

    def test_as_many_bytes_as_a_line_may_hold(self):
        row = [index % 256 for index in range(29995)]
        line = line_of([put(row), take(65535)])
        self.assertLessEqual(len(line), 30000)
        self.assertEqual(answers(line), [1, 0, 1, 0, 29996, 29995] + row)

    def test_whole_numbers_are_ints(self):
        told = answers(line_of(one_of_each() + refused_of_each() + a_message()))
        self.assertIs(type(told), list)
        self.assertEqual({type(number) for number in told}, {int})


class NothingIsKept(ListCase):
    def test_what_is_handed_in_stays(self):
        for call in one_of_each() + refused_of_each():
            line = BEGIN + call
            before = list(line)
            answers(line)
            self.assertEqual(line, before)

    def test_pointers_leave_the_message_as_it_was(self):
        msg = wire("org") + [1, 97, 192, 0]
        line = BEGIN + read(5, msg) + read(5, msg)
        before = list(line)
        first, second = ask_all(read(5, msg), read(5, msg))
        self.assertEqual(first, second)
        answers(line)
        self.assertEqual(line, before)

    def test_a_message_leaves_the_line_as_it_was(self):
        line = line_of(a_message() + refused_of_each() + a_message())
        before = list(line)
        answers(line)
        self.assertEqual(line, before)

    def test_second_time_as_the_first(self):
        for call in one_of_each() + refused_of_each():
            line = BEGIN + call
            self.assertEqual(answers(line), answers(line))

    def test_no_message_is_left_for_the_next_line(self):
        for turn in range(3):
            self.assertEqual(ask_all(*a_message()), answers_of_the_message())
            self.assertEqual(message_of(put_name(1, wire("org"))), wire("org"))
            self.assertEqual(ask_all(take(9)), [[0]])

    def test_what_is_given_back_is_not_the_message(self):
        line = line_of(a_message())
        first = answers(line)
        expected = list(first)
        first.extend([1, 2, 3])
        self.assertEqual(answers(line), expected)

    def test_what_is_given_back_is_new(self):
        line = BEGIN + wire_of([97])
        first = answers(line)
        first.clear()
        self.assertEqual(answers(line), [1, 0, 4, 3, 1, 97, 0])

    def test_a_call_changes_no_other(self):
        calls = one_of_each()
        self.assertEqual(ask_all(*calls, *calls), answers_of_each() * 2)
        # The message is begun before it is taken only as the calls stand.
        calls = calls[:-1]
        self.assertEqual(ask_all(*reversed(calls)), answers_of_each()[-2::-1])


if __name__ == "__main__":
    unittest.main()
