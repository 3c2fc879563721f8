"""The message that is being made: bytes and names stand behind it, names packed by pointing back."""

from labelpack.names import small
from labelpack.reading import LOWEST_POINTER

LONGEST_MESSAGE = 65535
# A pointer has 14 bits for its place.
PLACES_POINTED_TO = 16384


class NoRoom(Exception):
    """The message would have more bytes than a message may have."""


def ends_of(name):
    """The ends of a written name, the longest first: where each begins in it, and its bytes in small letters."""
    # A length is below every letter's byte, so it stays as it is.
    lowered = [small(byte) for byte in name]
    ends = []
    place = 0
    while name[place] != 0:
        ends.append((place, tuple(lowered[place:])))
        place += 1 + name[place]
    return ends


def pointer_to(place):
    return [LOWEST_POINTER + place // 256, place % 256]


class Message:
    """The message's bytes, and for each end that may be pointed to the first place where it was written."""

    def __init__(self):
        self.content = []
        self.first_places = {}

    def begin(self):
        self.content = []
        self.first_places = {}

    def put(self, row):
        if len(self.content) + len(row) > LONGEST_MESSAGE:
            raise NoRoom("the message would have more than 65535 bytes")
        self.content.extend(row)

    def put_name(self, name):
        self.put_labels(name, len(name) - 1, [0])

    def put_packed_name(self, name):
        for place, end in ends_of(name):
            if end in self.first_places:
                self.put_labels(name, place, pointer_to(self.first_places[end]))
                return
        self.put_name(name)

    def put_labels(self, name, length, tail):
        """The labels in the name's first bytes, as many as length tells, then what stands for the rest of it."""
        start = len(self.content)
        # This may refuse, so it comes before any end is noted.
        self.put(name[:length] + tail)
        for place, end in ends_of(name):
            if place < length and start + place < PLACES_POINTED_TO:
                self.first_places.setdefault(end, start + place)
