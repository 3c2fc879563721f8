"""Promise 1: dn_read."""

import unittest

from asking import ask, codes, long_name, pointer, read, wire

REFUSED = [-1]


def found(name, behind):
    return [len(name)] + name + [behind]


class NamesWithoutPointers(unittest.TestCase):
    def test_name_at_the_beginning(self):
        name = wire("www", "example", "org")
        self.assertEqual(ask(read(0, name)), found(name, len(name)))

    def test_name_of_no_labels(self):
        self.assertEqual(ask(read(0, [0])), [1, 0, 1])

    def test_name_further_on_with_bytes_around_it(self):
        name = wire("a", "bc")
        msg = [250, 251, 252] + name + [99, 98]
        self.assertEqual(ask(read(3, msg)), found(name, 3 + len(name)))

    def test_labels_hold_any_bytes_in_their_case(self):
        name = wire([0, 46, 92, 192, 255], "aBC")
        self.assertEqual(ask(read(0, name)), found(name, len(name)))

    def test_label_of_63_bytes(self):
        name = wire("x" * 63)
        self.assertEqual(ask(read(0, name)), found(name, 65))


class NamesWithPointers(unittest.TestCase):
    def test_one_pointer(self):
        msg = wire("org") + [3] + codes("www") + pointer(0) + [77]
        self.assertEqual(ask(read(5, msg)), found(wire("www", "org"), 11))

    def test_pointer_alone(self):
        msg = wire("org") + pointer(0)
        self.assertEqual(ask(read(5, msg)), found(wire("org"), 7))

    def test_pointer_to_the_name_of_no_labels(self):
        self.assertEqual(ask(read(1, [0] + pointer(0))), [1, 0, 3])

    def test_several_labels_before_and_behind_the_pointer(self):
        msg = wire("x", "example", "org") + wire("mail", "eu")[:-1] + pointer(2)
        at = len(wire("x", "example", "org"))
        self.assertEqual(ask(read(at, msg)), found(wire("mail", "eu", "example", "org"), len(msg)))

    def test_pointers_behind_one_another(self):
        first = wire("org")
        second = [2] + codes("ex") + pointer(0)
        third = [1] + codes("w") + pointer(5)
        msg = first + second + third + [9, 9]
        self.assertEqual(ask(read(10, msg)), found(wire("w", "ex", "org"), 14))

    def test_pointer_to_a_pointer(self):
        msg = wire("org") + pointer(0) + pointer(5)
        self.assertEqual(ask(read(7, msg)), found(wire("org"), 9))

    def test_pointer_into_a_label(self):
        msg = [4, 1, 65, 0, 7, 0] + pointer(1)
        self.assertEqual(ask(read(6, msg)), found(wire("A"), 8))

    def test_pointer_to_just_before_its_run(self):
        self.assertEqual(ask(read(1, [0, 1, 65] + pointer(0))), found(wire("A"), 5))
        msg = [7, 0, 1, 65] + pointer(1)
        self.assertEqual(ask(read(2, msg)), found(wire("A"), 6))

    def test_first_byte_is_the_higher(self):
        msg = [7] * 259 + wire("far") + pointer(259)
        self.assertEqual(ask(read(264, msg)), found(wire("far"), 266))

    def test_all_14_bits_count(self):
        msg = [7] * 16383 + wire("far") + [255, 255]
        self.assertEqual(ask(read(16388, msg)), found(wire("far"), 16390))

    def test_run_place_past_what_pointers_reach(self):
        msg = wire("org") + [7] * 20000 + wire("a")[:-1] + pointer(0)
        self.assertEqual(ask(read(20005, msg)), found(wire("a", "org"), 20009))

    def test_thousands_of_pointers(self):
        msg = [0, 0]
        for place in range(0, 16000, 2):
            msg += pointer(place)
        self.assertEqual(ask(read(16000, msg)), [1, 0, 16002])


class PointersThatLeadElsewhere(unittest.TestCase):
    def test_to_its_own_run(self):
        self.assertEqual(ask(read(0, [1, 65] + pointer(0))), REFUSED)

    def test_to_itself(self):
        self.assertEqual(ask(read(0, pointer(0))), REFUSED)
        self.assertEqual(ask(read(1, [0] + pointer(1) + [0])), REFUSED)

    def test_into_its_own_run(self):
        msg = [0, 1, 65, 1, 66] + pointer(3)
        self.assertEqual(ask(read(1, msg)), REFUSED)

    def test_behind_its_run(self):
        msg = [0, 1, 65] + pointer(5) + [0]
        self.assertEqual(ask(read(1, msg)), REFUSED)

    def test_each_run_counts_from_its_own_place(self):
        # The run at 0 leads to 3: before the first run's place, yet not before its own.
        msg = pointer(3) + [9, 0] + pointer(0)
        self.assertEqual(ask(read(4, msg)), REFUSED)

    def test_second_run_leads_to_its_own_place(self):
        msg = [0] + wire("a")[:-1] + pointer(1) + pointer(1)
        self.assertEqual(ask(read(5, msg)), REFUSED)

    def test_past_the_message(self):
        self.assertEqual(ask(read(1, [0] + pointer(9000))), REFUSED)


class BytesThatAreNoLength(unittest.TestCase):
    def test_64_to_191(self):
        for byte in range(64, 192):
            msg = [byte] + [0] * 300
            self.assertEqual(ask(read(0, msg)), REFUSED, byte)

    def test_behind_a_label(self):
        for byte in (64, 127, 128, 191):
            self.assertEqual(ask(read(0, [1, 65, byte] + [0] * 300)), REFUSED, byte)

    def test_behind_a_pointer(self):
        for byte in (64, 191):
            msg = [byte] + [0] * 200
            self.assertEqual(ask(read(201, msg + pointer(0))), REFUSED, byte)


class RunsPastTheEnd(unittest.TestCase):
    def test_empty_message(self):
        self.assertEqual(ask(read(0, [])), REFUSED)

    def test_place_behind_the_end(self):
        for at in (1, 2, 3, 65535, 65536, 4294967295):
            self.assertEqual(ask(read(at, [0])), REFUSED, at)

    def test_within_a_label(self):
        self.assertEqual(ask(read(0, [3, 65, 66])), REFUSED)
        self.assertEqual(ask(read(0, [1])), REFUSED)
        self.assertEqual(ask(read(2, [1, 65, 5, 66, 0])), REFUSED)

    def test_no_end_behind_a_label(self):
        self.assertEqual(ask(read(0, [1, 65])), REFUSED)

    def test_at_a_pointers_second_byte(self):
        self.assertEqual(ask(read(1, [0, 192])), REFUSED)
        self.assertEqual(ask(read(1, [0, 1, 65, 192])), REFUSED)

    def test_in_a_run_that_was_pointed_to(self):
        # From 0 on a label of 9 bytes is begun that the message does not hold.
        self.assertEqual(ask(read(2, [9, 1] + pointer(0))), REFUSED)
        # From 0 on a label ends just with the message.
        self.assertEqual(ask(read(2, [3, 1] + pointer(0))), REFUSED)

    def test_end_is_the_messages_last_byte(self):
        self.assertEqual(ask(read(0, [1, 65, 0])), [3, 1, 65, 0, 3])
        self.assertEqual(ask(read(2, [9, 0, 0])), [1, 0, 3])


class LongNames(unittest.TestCase):
    def test_255_bytes(self):
        name = long_name(255)
        self.assertEqual(len(name), 255)
        self.assertEqual(ask(read(0, name)), found(name, 255))

    def test_256_bytes(self):
        name = long_name(256)
        self.assertEqual(len(name), 256)
        self.assertEqual(ask(read(0, name)), REFUSED)

    def test_much_more(self):
        self.assertEqual(ask(read(0, [1, 65] * 5000 + [0])), REFUSED)

    def test_pointers_bytes_do_not_count(self):
        tail = wire("a" * 63, "a" * 63, "a" * 63, "b" * 59)
        self.assertEqual(len(tail), 253)
        msg = tail + [1, 65] + pointer(0)
        self.assertEqual(ask(read(253, msg)), found([1, 65] + tail, 257))

    def test_256_bytes_by_a_pointer(self):
        tail = wire("a" * 63, "a" * 63, "a" * 63, "b" * 60)
        self.assertEqual(len(tail), 254)
        self.assertEqual(ask(read(0, tail)), found(tail, 254))
        self.assertEqual(ask(read(254, tail + pointer(0))), found(tail, 256))
        self.assertEqual(ask(read(254, tail + [1, 65] + pointer(0))), REFUSED)

    def test_labels_past_255_bytes_before_a_pointer(self):
        msg = [0] + long_name(256)[:-1] + pointer(0)
        self.assertEqual(ask(read(1, msg)), REFUSED)


if __name__ == "__main__":
    unittest.main()
