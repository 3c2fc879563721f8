"""Promise 5: dn_begin, dn_put and dn_name, and how long a message may be."""

import unittest

from asking import (
    BEGIN, ListCase, ask_all, codes, endless, long_name, message_of, pointer, put, put_name, take, wire,
)

DONE = [0]
REFUSED = [-1]
OUT_OF_RANGE = [-2]
LONGEST = 65535
NO_NAMES = ([64] + [0] * 254, [255] * 255, [1, 65, 192, 0] + [0] * 251, endless(), [63] * 255)
BAD_PACKS = (2, -1, 3, 255, 256, -2147483648, 2147483647)


class Begin(ListCase):
    def test_message_is_empty(self):
        self.assertEqual(ask_all(take()), [[0]])

    def test_again_behind_bytes(self):
        self.assertEqual(ask_all(put([1, 2, 3]), BEGIN, take()), [DONE, DONE, [0]])

    def test_again_behind_a_name(self):
        self.assertEqual(message_of(put_name(0, wire("a")), BEGIN, put([9])), [9])

    def test_ends_before_it_are_not_pointed_to(self):
        for pack in (0, 1):
            name = wire("www", "org")
            self.assertEqual(message_of(put_name(pack, name), BEGIN, put_name(1, name)), name)
            self.assertEqual(message_of(put_name(pack, name), BEGIN, put([7] * 30), put_name(1, name)), [7] * 30 + name)

    def test_ends_behind_it_are_pointed_to(self):
        name = wire("org")
        made = message_of(put_name(1, name), BEGIN, put([7]), put_name(1, name), put_name(1, name))
        self.assertEqual(made, [7] + name + pointer(1))

    def test_several_times(self):
        name = wire("org")
        calls = [BEGIN, put_name(1, name), BEGIN, BEGIN, put([1]), BEGIN, put_name(1, name)]
        self.assertEqual(message_of(*calls), name)


class Put(ListCase):
    def test_no_bytes(self):
        self.assertEqual(ask_all(put([]), take()), [DONE, [0]])
        self.assertEqual(message_of(put([5]), put([]), put([6])), [5, 6])

    def test_bytes_stand_behind_one_another(self):
        self.assertEqual(message_of(put([1, 2]), put([3]), put([4, 5, 6])), [1, 2, 3, 4, 5, 6])

    def test_every_byte(self):
        self.assertEqual(message_of(put(list(range(256)))), list(range(256)))

    def test_behind_and_before_names(self):
        made = message_of(put([1]), put_name(0, wire("a")), put([2]), put_name(1, wire("b")), put([3]))
        self.assertEqual(made, [1] + wire("a") + [2] + wire("b") + [3])

    def test_bytes_like_a_name_are_no_end(self):
        name = wire("www", "org")
        self.assertEqual(message_of(put(name), put_name(1, name)), name + name)
        self.assertEqual(message_of(put(name), put_name(1, wire("org"))), name + wire("org"))

    def test_bytes_like_a_name_do_not_come_first(self):
        name = wire("org")
        made = message_of(put(name), put_name(0, name), put_name(1, name))
        self.assertEqual(made, name + name + pointer(5))

    def test_bytes_like_a_label_before_a_name_are_no_end(self):
        made = message_of(put([3] + codes("www")), put_name(0, wire("org")), put_name(1, wire("www", "org")))
        self.assertEqual(made, [3] + codes("www") + wire("org") + [3] + codes("www") + pointer(4))


class Name(ListCase):
    def test_answers_0_and_stands_behind_the_message(self):
        for pack in (0, 1):
            told = ask_all(put([9]), put_name(pack, wire("a", "Bc")), take())
            self.assertEqual(told, [DONE, DONE, [7, 9] + wire("a", "Bc")])

    def test_name_of_no_labels(self):
        for pack in (0, 1):
            self.assertEqual(message_of(put_name(pack, wire())), [0])

    def test_longest_name(self):
        name = long_name(255)
        for pack in (0, 1):
            self.assertEqual(message_of(put_name(pack, name)), name)

    def test_what_is_behind_the_name_is_not_looked_at(self):
        for pack in (0, 1):
            for filler in (0, 1, 63, 64, 97, 255):
                made = message_of(put([1]), put_name(pack, wire("b"), filler), put_name(1, wire("b"), 9))
                self.assertEqual(made, [1] + wire("b") + pointer(1))


class RefusedNames(ListCase):
    def assert_nothing_changes(self, refused, answer):
        # The refused call's name must leave neither bytes nor an end behind.
        before = [put([1, 2]), put_name(0, wire("org"))]
        behind = [put_name(1, wire("a", "org")), put_name(1, wire("A"))]
        told = ask_all(*before, take(), refused, take(), *behind, take())
        self.assertEqual(told[3], answer)
        self.assertEqual(told[4], told[2])
        self.assertEqual(told[-1][1:], message_of(*before, *behind))

    def test_no_name(self):
        for pack in (0, 1):
            for row in NO_NAMES:
                self.assertEqual(len(row), 255)
                self.assert_nothing_changes(put_name(pack, row), REFUSED)

    def test_labels_before_a_bad_length_are_no_end(self):
        for pack in (0, 1):
            self.assert_nothing_changes(put_name(pack, [1, 97, 3] + codes("org") + [64]), REFUSED)

    def test_pack_out_of_its_range(self):
        for pack in BAD_PACKS:
            for name in (wire("a"), wire("a", "org"), wire()):
                self.assert_nothing_changes(put_name(pack, name), OUT_OF_RANGE)

    def test_range_comes_first(self):
        for pack in BAD_PACKS:
            for row in NO_NAMES:
                self.assert_nothing_changes(put_name(pack, row), OUT_OF_RANGE)


def filled(size):
    """A call that puts this many bytes."""
    return put([7] * size)


class LongestMessage(ListCase):
    # These lines are longer than a line may be, as no shorter one comes to the limit.

    def assert_fits(self, calls, added):
        self.assertEqual(message_of(*calls)[-len(added):], added)

    def assert_refused(self, calls, refused, answer=REFUSED):
        *done, before, told, after = ask_all(*calls, take(), refused, take())
        self.assertEqual(done, [DONE] * len(calls))
        self.assertEqual(told, answer)
        self.assertEqual(after, before)

    def test_put_to_the_limit(self):
        self.assertEqual(len(message_of(filled(LONGEST))), LONGEST)
        self.assertEqual(len(message_of(filled(65000), filled(535))), LONGEST)
        self.assertEqual(len(message_of(*[filled(13107)] * 5)), LONGEST)

    def test_put_past_the_limit(self):
        self.assert_refused([filled(65000)], filled(536))
        self.assert_refused([filled(LONGEST)], filled(1))
        self.assert_refused([filled(40000)], filled(30000))
        self.assert_refused([], filled(LONGEST + 1))

    def test_no_bytes_behind_the_longest_message(self):
        self.assertEqual(len(message_of(filled(LONGEST), put([]))), LONGEST)

    def test_bytes_fit_behind_a_refusal(self):
        told = ask_all(filled(LONGEST - 2), put([1, 2, 3]), put([4, 5]), put([6]), take())
        self.assertEqual(told[:4], [DONE, REFUSED, DONE, REFUSED])
        self.assertEqual(told[4][0], LONGEST)
        self.assertEqual(told[4][-3:], [7, 4, 5])

    def test_name_to_the_limit(self):
        for pack in (0, 1):
            for name in (wire(), wire("a"), wire("www", "org"), long_name(255)):
                calls = [filled(LONGEST - len(name)), put_name(pack, name)]
                self.assert_fits(calls, [7] + name)
                self.assertEqual(len(message_of(*calls)), LONGEST)

    def test_name_past_the_limit(self):
        for pack in (0, 1):
            for name in (wire(), wire("a"), wire("www", "org"), long_name(255)):
                self.assert_refused([filled(LONGEST - len(name) + 1)], put_name(pack, name))
                self.assert_refused([filled(LONGEST)], put_name(pack, name))

    def test_room_only_as_it_is_packed(self):
        org = wire("org")
        for name, packed in ((org, pointer(0)), (wire("a", "org"), [1, 97] + pointer(0))):
            calls = [put_name(0, org), filled(LONGEST - len(org) - len(packed))]
            self.assert_fits(calls + [put_name(1, name)], packed)
            self.assertEqual(len(message_of(*calls, put_name(1, name))), LONGEST)
            self.assert_refused(calls, put_name(0, name))

    def test_no_room_as_it_is_packed(self):
        org = wire("org")
        for name, size in ((org, 2), (wire("a", "org"), 4)):
            self.assert_refused([put_name(0, org), filled(LONGEST - len(org) - size + 1)], put_name(1, name))

    def test_ends_of_a_refused_name_are_not_pointed_to(self):
        name = wire("www", "org")
        for pack in (0, 1):
            told = ask_all(filled(LONGEST - 8), put_name(pack, name), put_name(1, wire("org")), put([]), take())
            self.assertEqual(told[:3], [DONE, REFUSED, DONE])
            self.assertEqual(told[4][-6:], [7] + wire("org"))
            self.assertEqual(told[4][0], LONGEST - 3)
            told = ask_all(filled(LONGEST - 8), put_name(pack, name), BEGIN, put_name(1, name), take())
            self.assertEqual(told[4][1:], name)

    def test_range_comes_first(self):
        self.assert_refused([filled(LONGEST)], put_name(2, wire("a")), OUT_OF_RANGE)

    def test_begin_makes_room(self):
        made = message_of(filled(LONGEST), BEGIN, filled(LONGEST), BEGIN, put([5]))
        self.assertEqual(made, [5])


if __name__ == "__main__":
    unittest.main()
