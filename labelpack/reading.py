"""Names read out of a message, along their pointers."""

from labelpack.names import LONGEST_LABEL, LONGEST_NAME, NoName

LOWEST_POINTER = 192


def run_end(msg, start):
    """The first place that is no label's, from start on; it may lie past the message's end."""
    place = start
    while place < len(msg) and 1 <= msg[place] <= LONGEST_LABEL:
        place += 1 + msg[place]
    return place


def is_pointer(msg, place):
    return place + 1 < len(msg) and msg[place] >= LOWEST_POINTER


def pointed_place(msg, place):
    return (msg[place] - LOWEST_POINTER) * 256 + msg[place + 1]


def is_end(msg, place):
    return place < len(msg) and msg[place] == 0


def read_name(msg, at):
    """How many bytes the name at this place has, these, and the place behind its first run."""
    start = at
    end = run_end(msg, start)
    behind = end + 2 if is_pointer(msg, end) else end + 1
    # A run without its end stands in the message just as the name is written.
    name = msg[start:end]
    # Each run begins before the one that pointed to it, so this comes to an end.
    while is_pointer(msg, end) and len(name) < LONGEST_NAME:
        place = pointed_place(msg, end)
        if place >= start:
            raise NoName("a pointer does not lead before its run")
        start = place
        end = run_end(msg, start)
        name.extend(msg[start:end])
    if not is_end(msg, end):
        raise NoName("a run does not end as runs do")
    name.append(0)
    if len(name) > LONGEST_NAME:
        raise NoName("a name has more than 255 bytes")
    return [len(name)] + name + [behind]
