"""Promise 7: dn_take."""

import unittest

from asking import ListCase, ask, ask_all, pointer, put, put_name, take, wire

DONE = [0]
OUT_OF_RANGE = [-2]
BAD_ROOMS = (65536, 65537, 131071, 2147483648, 4294967295)


def taken(room, row):
    return ask_all(put(row), take(room))[1]


class Take(ListCase):
    def test_empty_message(self):
        for room in (0, 1, 65535):
            self.assertEqual(ask(take(room)), [0])

    def test_room_0(self):
        self.assertEqual(taken(0, [5, 6, 7]), [3])

    def test_less_than_the_message_has(self):
        self.assertEqual(taken(1, [5, 6, 7]), [3, 5])
        self.assertEqual(taken(2, [5, 6, 7]), [3, 5, 6])

    def test_just_and_more(self):
        self.assertEqual(taken(3, [5, 6, 7]), [3, 5, 6, 7])
        self.assertEqual(taken(4, [5, 6, 7]), [3, 5, 6, 7])

    def test_room_65535(self):
        self.assertEqual(taken(65535, [5, 6, 7]), [3, 5, 6, 7])

    def test_room_above_dn_texts(self):
        row = list(range(256)) * 5
        self.assertEqual(taken(1025, row), [1280] + row[:1025])

    def test_longest_message(self):
        row = [1] * 65534 + [2]
        self.assertEqual(taken(65535, row), [65535] + row)
        self.assertEqual(taken(65534, row), [65535] + row[:-1])
        self.assertEqual(taken(0, row), [65535])

    def test_names_and_pointers(self):
        calls = [put_name(1, wire("org")), put_name(1, wire("ORG"))]
        self.assertEqual(ask_all(*calls, take(6))[2], [7] + wire("org") + [192])
        self.assertEqual(ask_all(*calls, take(7))[2], [7] + wire("org") + pointer(0))

    def test_room_out_of_its_range(self):
        for room in BAD_ROOMS:
            self.assertEqual(ask(take(room)), OUT_OF_RANGE)
            self.assertEqual(taken(room, [5, 6, 7]), OUT_OF_RANGE)


class NothingChanges(ListCase):
    def test_taken_again(self):
        told = ask_all(put([5, 6, 7]), take(3), take(1), take(0), take(3))
        self.assertEqual(told, [DONE, [3, 5, 6, 7], [3, 5], [3], [3, 5, 6, 7]])

    def test_bytes_and_names_go_on_behind_it(self):
        for room in (0, 1, 65535) + BAD_ROOMS:
            told = ask_all(put([9]), put_name(0, wire("a")), take(room), put([8]), put_name(1, wire("a")), take())
            self.assertEqual(told[-1], [7, 9] + wire("a") + [8] + pointer(1))

    def test_refused(self):
        told = ask_all(put([5]), take(65536), take(1))
        self.assertEqual(told, [DONE, OUT_OF_RANGE, [1, 5]])


if __name__ == "__main__":
    unittest.main()
