"""Calls put together for the tests, and their answers taken apart."""

import unittest

from labelpack.desk import answers

NAME_ROOM = 255
BEGIN = [5]


def codes(text):
    """A text's characters as bytes."""
    return list(text.encode("latin-1"))


def wire(*labels):
    """A name as it is written; a label is a text or a list of bytes."""
    name = []
    for label in labels:
        row = codes(label) if isinstance(label, str) else label
        name += [len(row)] + row
    return name + [0]


def handed(name, filler=200):
    """The 255 bytes that are handed over for a name; what is behind it must not matter."""
    return name + [filler] * (NAME_ROOM - len(name))


def long_name(size):
    """A written name of 255 or 256 bytes, in labels of 63 bytes and one that is shorter."""
    full = "a" * 63
    return wire(full, full, full, "b" * (size - 3 * 64 - 2))


def endless():
    """255 bytes of good labels without an end."""
    return long_name(NAME_ROOM + 1)[:NAME_ROOM]


def read(at, msg):
    return [0, at, len(msg)] + msg


def text(room, name):
    return [1, room, len(name)] + name


def wire_of(row):
    return [2, len(row)] + row


def order(a, b):
    return [3, len(a)] + a + [len(b)] + b


def under(a, b):
    return [4, len(a)] + a + [len(b)] + b


def put(row):
    return [6, len(row)] + row


def put_name(pack, name, filler=200):
    row = handed(name, filler)
    return [7, pack, len(row)] + row


def take(room=65535):
    return [8, room]


def split_answers(told):
    """The answers, a list for each call."""
    parts = []
    place = 0
    while place < len(told):
        behind = place + 1 + told[place]
        parts.append(told[place + 1:behind])
        place = behind
    assert place == len(told), "the last answer is cut off"
    return parts


def ask_all(*calls):
    """The answers to these calls on a line that is begun."""
    line = list(BEGIN)
    for call in calls:
        line += call
    first, *others = split_answers(answers(line))
    assert first == [0], "dn_begin answers 0"
    return others


def ask(call):
    (only,) = ask_all(call)
    return only


def message_of(*calls):
    """The message that these calls make; each of them answers 0."""
    *done, taken = ask_all(*calls, take())
    assert done == [[0]] * len(calls), done
    assert taken[0] == len(taken) - 1, "the whole message is taken"
    return taken[1:]


def pointer(place):
    return [192 + place // 256, place % 256]


class ListCase(unittest.TestCase):
    """Lists are told apart by their first difference: unittest's own account of it takes minutes for long ones."""

    def setUp(self):
        self.addTypeEqualityFunc(list, self.assert_same_list)

    def assert_same_list(self, told, expected, msg=None):
        if told != expected:
            place = 0
            while told[place:place + 1] == expected[place:place + 1]:
                place += 1
            self.fail(f"{msg}: from {place} on {told[place:place + 9]}.. and not {expected[place:place + 9]}..")
