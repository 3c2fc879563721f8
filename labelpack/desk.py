"""The desk where calls are answered, one behind another."""

from labelpack.calls import CallReader
from labelpack.names import NoName, labels_of, written
from labelpack.order import is_under, order_of
from labelpack.reading import read_name
from labelpack.text import labels_told, text_of

NO_NAME = -1
OUT_OF_RANGE = -2
NO_NAME_TO_ORDER = -3
MOST_TEXT_ROOM = 1024


class OutOfRange(Exception):
    """A number is not in its range."""


# Each answer takes all of its call before it may refuse, so that the next call is found.


def answer_read(reader):
    at = reader.take_number()
    msg = reader.take_row()
    return read_name(msg, at)


def answer_text(reader):
    room = reader.take_number()
    name = reader.take_row()
    if room > MOST_TEXT_ROOM:
        raise OutOfRange("room is above 1024")
    text = text_of(labels_of(name))
    return [len(text)] + text[:room]


def answer_wire(reader):
    text = reader.take_row()
    name = written(labels_told(text))
    return [len(name)] + name


def answer_order(reader):
    a = reader.take_row()
    b = reader.take_row()
    try:
        return [order_of(labels_of(a), labels_of(b))]
    except NoName:
        # Here -1 says that a comes before b.
        return [NO_NAME_TO_ORDER]


def answer_under(reader):
    a = reader.take_row()
    b = reader.take_row()
    return [1 if is_under(labels_of(a), labels_of(b)) else 0]


def answer_begin(reader):
    return [0]


ANSWERS_BY_NUMBER = {
    0: answer_read,
    1: answer_text,
    2: answer_wire,
    3: answer_order,
    4: answer_under,
    5: answer_begin,
}


def answer_next(reader):
    """The numbers that the next call is answered with."""
    answer = ANSWERS_BY_NUMBER[reader.take_number()]
    try:
        return answer(reader)
    except NoName:
        return [NO_NAME]
    except OutOfRange:
        return [OUT_OF_RANGE]


def answers(calls):
    """What each call is answered, with how many numbers that is before it."""
    reader = CallReader(calls)
    told = []
    while reader.has_more():
        numbers = answer_next(reader)
        told.append(len(numbers))
        told.extend(numbers)
    return told
