"""Promise 6: dn_name with pack 1, and with pack 0."""

import itertools
import unittest

from asking import ListCase, ask, codes, handed, message_of, order, pointer, put, put_name, read, wire


def labels(*rows):
    """Labels as they are written, without the name's end."""
    return wire(*rows)[:-1]


def packed(*names):
    """The message of these names, all with pack 1."""
    return message_of(*[put_name(1, name) for name in names])


class Whole(ListCase):
    def test_written_though_it_stood_before(self):
        name = wire("www", "org")
        for pack in (0, 1):
            self.assertEqual(message_of(put_name(pack, name), put_name(0, name)), name + name)

    def test_its_ends_count_for_later_names(self):
        name = wire("www", "example", "org")
        self.assertEqual(message_of(put_name(0, name), put_name(1, name)), name + pointer(0))
        self.assertEqual(message_of(put_name(0, name), put_name(1, wire("example", "org"))), name + pointer(4))
        self.assertEqual(message_of(put_name(0, name), put_name(1, wire("org"))), name + pointer(12))

    def test_its_new_ends_count_though_others_stood_before(self):
        first = wire("org")
        second = wire("a", "org")
        made = message_of(put_name(0, first), put_name(0, second), put_name(1, wire("A", "org")))
        self.assertEqual(made, first + second + pointer(5))


class Packed(ListCase):
    def test_first_name_of_a_message(self):
        self.assertEqual(packed(wire("www", "example", "org")), wire("www", "example", "org"))
        self.assertEqual(packed(wire("a", "a", "a")), wire("a", "a", "a"))

    def test_same_name_again(self):
        name = wire("www", "example", "org")
        self.assertEqual(packed(name, name), name + pointer(0))
        self.assertEqual(packed(name, name, name), name + pointer(0) + pointer(0))

    def test_only_an_end_stood_before(self):
        self.assertEqual(packed(wire("org"), wire("www", "org")), wire("org") + labels("www") + pointer(0))
        made = packed(wire("ftp", "example", "org"), wire("www", "example", "org"))
        self.assertEqual(made, wire("ftp", "example", "org") + labels("www") + pointer(4))

    def test_several_labels_before_the_pointer(self):
        made = packed(wire("org"), wire("a", "b", "c", "org"))
        self.assertEqual(made, wire("org") + labels("a", "b", "c") + pointer(0))

    def test_longest_end_is_chosen(self):
        first = wire("org")
        second = wire("example", "org")
        made = message_of(put_name(0, first), put_name(0, second), put_name(1, wire("www", "example", "org")))
        self.assertEqual(made, first + second + labels("www") + pointer(5))
        made = message_of(put_name(0, second), put_name(0, first), put_name(1, wire("www", "example", "org")))
        self.assertEqual(made, second + first + labels("www") + pointer(0))

    def test_first_of_several_places(self):
        org = wire("org")
        made = message_of(put([9]), put_name(0, org), put_name(0, org), put_name(0, wire("a", "org")), put_name(1, org))
        self.assertEqual(made, [9] + org + org + wire("a", "org") + pointer(1))

    def test_first_place_though_the_case_differs(self):
        made = message_of(put_name(0, wire("ORG")), put_name(0, wire("org")), put_name(1, wire("org")))
        self.assertEqual(made, wire("ORG") + wire("org") + pointer(0))

    def test_end_of_another_name(self):
        made = packed(wire("www", "example", "org"), wire("example", "org"), wire("org"))
        self.assertEqual(made, wire("www", "example", "org") + pointer(4) + pointer(12))

    def test_ends_alone_count(self):
        first = wire("www", "example", "org")
        for other in (wire("www"), wire("example"), wire("www", "example"), wire("rg")):
            self.assertEqual(packed(first, other), first + other)
        self.assertEqual(packed(first, wire("www", "org")), first + labels("www") + pointer(12))
        self.assertEqual(packed(wire("example"), first), wire("example") + first)

    def test_labels_joined_otherwise_are_another_end(self):
        self.assertEqual(packed(wire("a.b"), wire("a", "b")), wire("a.b") + wire("a", "b"))
        self.assertEqual(packed(wire("ab"), wire("a", "b")), wire("ab") + wire("a", "b"))
        # The label's bytes look like two labels.
        self.assertEqual(packed(wire([97, 1, 98]), wire("a", "b")), wire([97, 1, 98]) + wire("a", "b"))

    def test_name_of_no_labels_is_never_pointed_to(self):
        self.assertEqual(packed(wire(), wire()), [0, 0])
        self.assertEqual(packed(wire("a"), wire(), wire("b")), wire("a") + [0] + wire("b"))

    def test_labels_before_a_pointer_count(self):
        first = wire("org")
        second = labels("www") + pointer(0)
        made = packed(first, wire("www", "org"), wire("www", "org"), wire("a", "WWW", "org"))
        self.assertEqual(made, first + second + pointer(5) + labels("a") + pointer(5))

    def test_end_cut_off_by_a_pointer_is_not_written_there(self):
        # The org of the second name is a pointer at 9; the end stays where it was written first.
        made = packed(wire("org"), wire("www", "org"), wire("ftp", "org"))
        self.assertEqual(made, wire("org") + labels("www") + pointer(0) + labels("ftp") + pointer(0))

    def test_name_that_is_all_pointer_is_no_end(self):
        org = wire("org")
        self.assertEqual(packed(org, org, org, wire("a", "org")), org + pointer(0) * 2 + labels("a") + pointer(0))

    def test_longest_names(self):
        name = wire(*["a"] * 127)
        self.assertEqual(len(name), 255)
        self.assertEqual(packed(name, name), name + pointer(0))
        self.assertEqual(packed(name, wire("a")), name + pointer(252))
        self.assertEqual(packed(name, wire("b", "a", "a")), name + labels("b") + pointer(250))
        other = wire("b", *["a"] * 126)
        self.assertEqual(packed(name, other), name + labels("b") + pointer(2))

    def test_labels_of_63_bytes(self):
        name = wire("x" * 63, "y" * 63)
        self.assertEqual(packed(name, wire("Y" * 63)), name + pointer(64))
        self.assertEqual(packed(name, wire("y" * 62)), name + wire("y" * 62))


class Case(ListCase):
    def test_small_and_capital_letters(self):
        first = wire("www", "EXAMPLE", "oRg")
        self.assertEqual(packed(first, wire("WWW", "example", "OrG")), first + pointer(0))
        self.assertEqual(packed(first, wire("Ftp", "exAMple", "ORG")), first + labels("Ftp") + pointer(4))

    def test_every_letter(self):
        small = "abcdefghijklmnopqrstuvwxyz"
        self.assertEqual(packed(wire(small), wire(small.upper())), wire(small) + pointer(0))
        self.assertEqual(packed(wire(small.upper()), wire(small)), wire(small.upper()) + pointer(0))

    def test_every_two_bytes_that_differ_by_32(self):
        for byte in range(224):
            first, second = wire([byte]), wire([byte + 32])
            same = 65 <= byte <= 90
            with self.subTest(byte=byte):
                self.assertEqual(packed(first, second), first + (pointer(0) if same else second))
                self.assertEqual(packed(second, first), second + (pointer(0) if same else first))

    def test_letters_as_they_are_handed_over(self):
        self.assertEqual(packed(wire("ORG"), wire("WwW", "org")), wire("ORG") + labels("WwW") + pointer(0))

    def test_lengths_have_no_case(self):
        first, second = wire("x" * 31), wire("x" * 63)
        self.assertEqual(packed(first, second), first + second)


class PlacesThatPointersReach(ListCase):
    def assert_made(self, calls, expected):
        self.assertEqual(message_of(*calls), expected)

    def made_behind(self, *calls):
        made = message_of(*calls)
        size = calls[0][1]
        self.assertEqual(made[:size], [7] * size)
        return made[size:]

    def test_first_byte_is_the_higher(self):
        for place in (255, 256, 257, 515, 8191, 8192, 16128):
            org = wire("org")
            made = self.made_behind(put([7] * place), put_name(1, org), put_name(1, org))
            self.assertEqual(made, org + pointer(place))

    def test_16383(self):
        org = wire("org")
        for pack in (0, 1):
            made = self.made_behind(put([7] * 16383), put_name(pack, org), put_name(1, org))
            self.assertEqual(made, org + [255, 255])

    def test_16384_and_behind(self):
        org = wire("org")
        for place in (16384, 16385, 20000):
            for pack in (0, 1):
                made = self.made_behind(put([7] * place), put_name(pack, org), put_name(1, org))
                self.assertEqual(made, org + org)

    def test_each_end_counts_by_its_own_place(self):
        # The first label is at 16380, the second at 16384.
        name = wire("www", "org")
        calls = [put([7] * 16380), put_name(0, name)]
        self.assertEqual(self.made_behind(*calls, put_name(1, name)), name + [255, 252])
        self.assertEqual(self.made_behind(*calls, put_name(1, wire("org"))), name + wire("org"))
        self.assertEqual(self.made_behind(*calls, put_name(1, wire("a", "org"))), name + wire("a", "org"))

    def test_second_label_at_16383(self):
        name = wire("www", "org")
        calls = [put([7] * 16379), put_name(0, name)]
        self.assertEqual(self.made_behind(*calls, put_name(1, wire("org"))), name + [255, 255])

    def test_behind_16384_and_the_same_one_before_it(self):
        org = wire("org")
        filler = [7] * 16400
        calls = [put_name(1, org), put(filler), put_name(0, org)]
        self.assert_made(calls + [put_name(1, org)], org + filler + org + pointer(0))
        self.assert_made(calls + [put_name(1, wire("a", "org"))], org + filler + org + labels("a") + pointer(0))

    def test_longer_end_behind_16384_is_passed_over(self):
        org, name = wire("org"), wire("www", "org")
        filler = [7] * 16400
        calls = [put_name(0, org), put(filler), put_name(0, name), put_name(1, name)]
        self.assert_made(calls, org + filler + name + labels("www") + pointer(0))

    def test_packed_label_behind_16384_is_no_end(self):
        org, name = wire("org"), wire("www", "org")
        filler = [7] * 16400
        calls = [put_name(0, org), put(filler), put_name(1, name), put_name(1, name)]
        self.assert_made(calls, org + filler + (labels("www") + pointer(0)) * 2)


def lowered(rows):
    return [row.lower() for row in rows]


def slowly_made(names):
    """The message of these (pack, labels), told anew from promise 6: every end before is looked at."""
    made = []
    ends = []
    for pack, rows in names:
        start = len(made)
        cut, tail = len(rows), [0]
        for first in reversed(range(len(rows))):
            places = [place for place, end in ends if lowered(end) == lowered(rows[first:])]
            if pack == 1 and places:
                cut, tail = first, pointer(min(places))
        for first in range(cut):
            ends.append((start + len(labels(*rows[:first])), rows[first:]))
        made += labels(*rows[:cut]) + tail
    return made


class AllShortLines(ListCase):
    def test_three_names(self):
        rows = [[], ["a"], ["b"], ["B", "a"], ["a", "A"], ["a", "b", "a"], ["b", "a", "a"], ["ab", "a"]]
        for names in itertools.product(itertools.product((0, 1), rows), repeat=3):
            made = message_of(*[put_name(pack, wire(*name)) for pack, name in names])
            self.assertEqual(made, slowly_made(names), names)

    def test_many_names(self):
        rows = [["a"], ["b", "A"], ["c", "B", "a"], ["c", "b"], ["B"], [], ["C", "b", "a"], ["d", "c", "b", "a"], ["A"]]
        names = [((place // 9 + place) % 3 % 2, rows[place * 4 % 9]) for place in range(80)]
        made = message_of(*[put_name(pack, wire(*name)) for pack, name in names])
        self.assertEqual(made, slowly_made(names))


class ReadBack(ListCase):
    def test_dn_read_finds_each_packed_name(self):
        rows = [["org"], ["example", "ORG"], ["www", "Example", "org"], [], ["WWW", "example", "org"], ["x", "com"],
                ["org", "com"], ["y", "www", "EXAMPLE", "org"], ["com"]]
        made = packed(*[wire(*row) for row in rows])
        place = 0
        for row in rows:
            told = ask(read(place, made))
            self.assertEqual(ask(order(handed(told[1:-1]), handed(wire(*row)))), [0])
            place = told[-1]
        self.assertEqual(place, len(made))
        self.assertLess(len(made), sum(len(wire(*row)) for row in rows))
        self.assertEqual(made[:5], [3] + codes("org") + [0])


if __name__ == "__main__":
    unittest.main()
