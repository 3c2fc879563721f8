"""Promise 2: dn_text."""

import unittest

from asking import ask, codes, endless, handed, long_name, text, wire

REFUSED = [-1]
OUT_OF_RANGE = [-2]


def told(name, room=1024):
    return ask(text(room, handed(name)))


class NamesAsText(unittest.TestCase):
    def assert_told(self, name, expected):
        self.assertEqual(told(name), [len(expected)] + codes(expected))

    def test_labels_with_a_point_behind_each(self):
        self.assert_told(wire("www", "Example", "org"), "www.Example.org.")
        self.assert_told(wire("a"), "a.")

    def test_name_of_no_labels(self):
        self.assert_told(wire(), ".")

    def test_point_and_backslash(self):
        self.assert_told(wire("a.b", "c\\d"), "a\\.b.c\\\\d.")
        self.assert_told(wire("."), "\\..")

    def test_digits_and_letters_stay_plain(self):
        self.assert_told(wire("019-azAZ"), "019-azAZ.")

    def test_bytes_at_the_edges(self):
        self.assert_told(wire([32]), "\\032.")
        self.assert_told(wire([33]), "!.")
        self.assert_told(wire([126]), "~.")
        self.assert_told(wire([127]), "\\127.")
        self.assert_told(wire([255]), "\\255.")
        self.assert_told(wire([0]), "\\000.")
        self.assert_told(wire([9, 10]), "\\009\\010.")

    def test_every_byte(self):
        for byte in range(256):
            if byte in (46, 92):
                expected = "\\" + chr(byte)
            elif 33 <= byte <= 126:
                expected = chr(byte)
            else:
                expected = "\\%03d" % byte
            with self.subTest(byte=byte):
                self.assert_told(wire([byte]), expected + ".")

    def test_longest_name_and_longest_text(self):
        full = [200] * 63
        name = wire(full, full, full, [200] * 61)
        self.assertEqual(len(name), 255)
        expected = "\\200" * 63 + "."
        self.assert_told(name, expected * 3 + "\\200" * 61 + ".")

    def test_what_is_behind_the_name_is_not_looked_at(self):
        for filler in (0, 1, 63, 64, 255):
            self.assertEqual(ask(text(9, handed(wire("a"), filler))), [2] + codes("a."))


class Room(unittest.TestCase):
    def test_room_0(self):
        self.assertEqual(told(wire("abc"), 0), [4])

    def test_less_than_the_text_has(self):
        self.assertEqual(told(wire("abc"), 1), [4] + codes("a"))
        self.assertEqual(told(wire("abc"), 3), [4] + codes("abc"))

    def test_within_an_escape(self):
        self.assertEqual(told(wire([7]), 2), [5] + codes("\\0"))

    def test_just_and_more(self):
        self.assertEqual(told(wire("abc"), 4), [4] + codes("abc."))
        self.assertEqual(told(wire("abc"), 5), [4] + codes("abc."))

    def test_room_1024(self):
        self.assertEqual(told(wire("abc"), 1024), [4] + codes("abc."))

    def test_room_out_of_its_range(self):
        for room in (1025, 65535, 65536, 4294967295):
            self.assertEqual(told(wire("abc"), room), OUT_OF_RANGE, room)


class NotNames(unittest.TestCase):
    def test_length_above_63(self):
        for length in (64, 127, 128, 192, 255):
            self.assertEqual(ask(text(100, [length] + [0] * 254)), REFUSED, length)
            self.assertEqual(ask(text(100, [1, 65, length] + [0] * 252)), REFUSED, length)

    def test_no_end_within_255_bytes(self):
        name = endless()
        self.assertEqual(len(name), 255)
        self.assertEqual(ask(text(100, name)), REFUSED)
        self.assertEqual(ask(text(100, [1] * 254 + [1])), REFUSED)

    def test_last_label_reaches_past_255_bytes(self):
        self.assertEqual(ask(text(100, [63] * 255)), REFUSED)

    def test_end_is_the_255th_byte(self):
        self.assertEqual(ask(text(0, long_name(255))), [254])

    def test_no_room_and_no_name(self):
        self.assertEqual(ask(text(0, [64] + [0] * 254)), REFUSED)

    def test_range_comes_first(self):
        self.assertEqual(ask(text(1025, [64] + [0] * 254)), OUT_OF_RANGE)
        self.assertEqual(ask(text(4294967295, endless())), OUT_OF_RANGE)


if __name__ == "__main__":
    unittest.main()
