"""Promise 4: dn_order and dn_under."""

import unittest

from asking import ask, endless, handed, long_name, order, under, wire

NO_NAMES = ([64] + [0] * 254, [1, 65, 192, 0] + [0] * 251, endless())


def order_of(a, b):
    return ask(order(handed(a, 7), handed(b, 201)))


def under_of(a, b):
    return ask(under(handed(a, 7), handed(b, 201)))


class Order(unittest.TestCase):
    def assert_before(self, a, b):
        self.assertEqual(order_of(a, b), [-1])
        self.assertEqual(order_of(b, a), [1])

    def assert_same(self, a, b):
        self.assertEqual(order_of(a, b), [0])
        self.assertEqual(order_of(b, a), [0])

    def test_last_labels_decide(self):
        self.assert_before(wire("z", "a"), wire("a", "b"))
        self.assert_before(wire("z", "z", "com"), wire("a", "org"))

    def test_then_the_ones_before(self):
        self.assert_before(wire("z", "a", "org"), wire("a", "b", "org"))
        self.assert_before(wire("a", "b", "org"), wire("b", "b", "org"))

    def test_fewer_labels_come_first(self):
        self.assert_before(wire("org"), wire("a", "org"))
        self.assert_before(wire("z", "org"), wire("a", "z", "org"))

    def test_last_label_decides_before_how_many(self):
        self.assert_before(wire("a", "b", "c", "com"), wire("org"))

    def test_a_beginning_comes_first(self):
        self.assert_before(wire("ab"), wire("abc"))
        self.assert_before(wire("z", "ab"), wire("a", "abc"))
        self.assert_before(wire("ab"), wire([97, 98, 0]))

    def test_bytes_decide_before_length(self):
        self.assert_before(wire("abc"), wire("b"))
        self.assert_before(wire("az"), wire("b"))

    def test_capitals_as_small_letters(self):
        self.assert_same(wire("WWW", "eXample", "ORG"), wire("www", "Example", "org"))
        self.assert_same(wire("AZ"), wire("az"))
        self.assert_before(wire("a"), wire("B"))
        self.assert_before(wire("A"), wire("b"))
        self.assert_before(wire("b", "A"), wire("c", "a"))

    def test_bytes_between_capitals_and_small_letters(self):
        for byte in range(91, 97):
            with self.subTest(byte=byte):
                self.assert_before(wire([byte]), wire("A"))
                self.assert_before(wire([byte]), wire("a"))
                self.assert_before(wire([byte]), wire("Z"))

    def test_only_letters_have_a_case(self):
        self.assert_before(wire("@"), wire("`"))
        self.assert_before(wire("["), wire("{"))
        self.assert_before(wire([192]), wire([224]))
        self.assert_before(wire([0]), wire([32]))

    def test_high_bytes_come_last(self):
        self.assert_before(wire("z"), wire([128]))
        self.assert_before(wire([127]), wire([255]))

    def test_name_of_no_labels(self):
        self.assert_same(wire(), wire())
        self.assert_before(wire(), wire([0]))

    def test_points_in_labels_are_bytes(self):
        self.assert_before(wire("a.b"), wire("a", "b"))

    def test_longest_names(self):
        name = long_name(255)
        self.assert_same(name, name)
        first = list(name)
        first[1] = 98
        self.assert_before(name, first)

    def test_no_name(self):
        for row in NO_NAMES:
            good = handed(wire("a"))
            self.assertEqual(ask(order(row, good)), [-3])
            self.assertEqual(ask(order(good, row)), [-3])
            self.assertEqual(ask(order(row, row)), [-3])


class Under(unittest.TestCase):
    def test_last_labels(self):
        self.assertEqual(under_of(wire("www", "example", "org"), wire("example", "org")), [1])
        self.assertEqual(under_of(wire("www", "example", "org"), wire("org")), [1])

    def test_the_same_name(self):
        self.assertEqual(under_of(wire("example", "org"), wire("example", "org")), [1])
        self.assertEqual(under_of(long_name(255), long_name(255)), [1])

    def test_but_for_case(self):
        self.assertEqual(under_of(wire("www", "EXAMPLE", "org"), wire("exAmple", "ORG")), [1])
        self.assertEqual(under_of(wire("a", "["), wire("{")), [0])

    def test_all_labels_of_b(self):
        self.assertEqual(under_of(wire("org"), wire("example", "org")), [0])
        self.assertEqual(under_of(wire("www", "example", "org"), wire("other", "org")), [0])
        self.assertEqual(under_of(wire("www", "example", "org"), wire("example", "com")), [0])

    def test_first_and_middle_labels_do_not_count(self):
        self.assertEqual(under_of(wire("www", "example", "org"), wire("www")), [0])
        self.assertEqual(under_of(wire("www", "example", "org"), wire("www", "example")), [0])
        self.assertEqual(under_of(wire("www", "example", "org"), wire("example")), [0])

    def test_whole_labels_alone(self):
        self.assertEqual(under_of(wire("myexample", "org"), wire("example", "org")), [0])
        self.assertEqual(under_of(wire("example", "org"), wire("examp", "org")), [0])
        # The bytes of b end those of a, but no label of a begins there.
        self.assertEqual(under_of(wire([97, 1, 98]), wire("b")), [0])

    def test_name_of_no_labels(self):
        self.assertEqual(under_of(wire("org"), wire()), [1])
        self.assertEqual(under_of(wire(), wire()), [1])
        self.assertEqual(under_of(wire(), wire("org")), [0])

    def test_no_name(self):
        for row in NO_NAMES:
            good = handed(wire("a"))
            self.assertEqual(ask(under(row, good)), [-1])
            self.assertEqual(ask(under(good, row)), [-1])
            self.assertEqual(ask(under(row, row)), [-1])


if __name__ == "__main__":
    unittest.main()
