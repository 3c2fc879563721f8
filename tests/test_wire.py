"""Promise 3: dn_wire."""

import unittest

from asking import ask, codes, handed, long_name, text, wire, wire_of

REFUSED = [-1]


class TextsAsNames(unittest.TestCase):
    def assert_names(self, row, name):
        if isinstance(row, str):
            row = codes(row)
        self.assertEqual(ask(wire_of(row)), [len(name)] + name)

    def test_point_at_the_end_and_none(self):
        self.assert_names("www.Example.org.", wire("www", "Example", "org"))
        self.assert_names("www.Example.org", wire("www", "Example", "org"))
        self.assert_names("a.", wire("a"))
        self.assert_names("a", wire("a"))

    def test_name_of_no_labels(self):
        self.assert_names(".", wire())

    def test_backslash_and_three_digits(self):
        self.assert_names("\\000", wire([0]))
        self.assert_names("\\255", wire([255]))
        self.assert_names("a\\046b.\\0921", wire("a.b", "\\1"))
        self.assert_names("\\0655.", wire("A5"))
        self.assert_names("\\199\\200.", wire([199, 200]))

    def test_backslash_and_another_character(self):
        self.assert_names("a\\.b.c", wire("a.b", "c"))
        self.assert_names("a\\\\.b", wire("a\\", "b"))
        self.assert_names("\\a\\Z\\/\\:\\ ", wire("aZ/: "))
        self.assert_names([92, 0, 92, 255], wire([0, 255]))

    def test_escaped_point_at_the_end(self):
        self.assert_names("a\\.", wire("a."))
        self.assert_names("\\.", wire("."))
        self.assert_names("\\..", wire("."))

    def test_escaped_backslash_before_digits(self):
        self.assert_names("\\\\1", wire("\\1"))
        self.assert_names("\\\\256", wire("\\256"))

    def test_any_byte_stands_for_itself(self):
        for byte in range(256):
            if byte not in (46, 92):
                with self.subTest(byte=byte):
                    self.assert_names([byte], wire([byte]))

    def test_label_of_63_bytes(self):
        self.assert_names("x" * 63, wire("x" * 63))
        self.assert_names("a." + "\\120" * 63 + ".b", wire("a", "x" * 63, "b"))

    def test_name_of_255_bytes(self):
        full = "a" * 63 + "."
        self.assert_names(full * 3 + "b" * 61, long_name(255))
        self.assert_names(full * 3 + "b" * 61 + ".", long_name(255))
        self.assert_names("a." * 127, wire(*["a"] * 127))

    def test_longest_text_of_a_name(self):
        full = "\\097" * 63 + "."
        self.assert_names(full * 3 + "\\098" * 61 + ".", long_name(255))

    def test_reads_what_dn_text_tells(self):
        for byte in range(256):
            name = wire([byte, 49], [50, byte])
            row = ask(text(1024, handed(name)))[1:]
            with self.subTest(byte=byte):
                self.assert_names(row, name)


class TextsThatAreRefused(unittest.TestCase):
    def assert_refused(self, row):
        self.assertEqual(ask(wire_of(codes(row))), REFUSED, row)

    def test_empty_text(self):
        self.assert_refused("")

    def test_empty_labels(self):
        for row in (".a", ".a.", "a..b", "a..", "..", "...", "a.b..", "..a", "a\\..."):
            self.assert_refused(row)

    def test_label_of_64_bytes(self):
        self.assert_refused("x" * 64)
        self.assert_refused("x" * 64 + ".")
        self.assert_refused("a." + "\\120" * 64 + ".b")
        self.assert_refused("\\." * 64)

    def test_name_of_256_bytes(self):
        full = "a" * 63 + "."
        self.assert_refused(full * 3 + "b" * 62)
        self.assert_refused(full * 3 + "b" * 62 + ".")
        self.assert_refused("a." * 126 + "bb.")

    def test_text_of_1024_bytes(self):
        self.assert_refused("x" * 1024)
        self.assert_refused("a." * 512)
        self.assert_refused("\\120" * 256)

    def test_backslash_at_the_end(self):
        for row in ("\\", "a\\", "a.\\", "a\\\\\\"):
            self.assert_refused(row)

    def test_one_or_two_digits_at_the_end(self):
        for row in ("\\1", "\\12", "a\\0", "a\\00", "\\9", "\\99"):
            self.assert_refused(row)

    def test_digit_that_two_more_do_not_follow(self):
        for row in ("\\1a", "\\1a2", "\\12a", "\\1ab", "\\12.", "\\1.2", "\\1..", "\\12\\3", "\\00/", "\\00:", "\\0/0"):
            self.assert_refused(row)

    def test_digits_above_255(self):
        for row in ("\\256", "\\260", "\\300", "\\999", "a.\\256.b"):
            self.assert_refused(row)


if __name__ == "__main__":
    unittest.main()
