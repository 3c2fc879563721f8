"""The desk where calls are answered, one behind another."""

from labelpack.calls import CallReader
from labelpack.message import Message, NoRoom
from labelpack.names import NoName, labels_of, written
from labelpack.order import is_under, order_of
from labelpack.reading import read_name
from labelpack.text import labels_told, text_of

NO_NAME = -1
NO_ROOM = -1
OUT_OF_RANGE = -2
NO_NAME_TO_ORDER = -3
MOST_TEXT_ROOM = 1024
MOST_TAKE_ROOM = 65535
MOST_PACK = 1


class OutOfRange(Exception):
    """A number is not in its range."""


def check_range(number, most):
    if number < 0 or number > most:
        raise OutOfRange("a number is not in its range")


# Each answer takes all of its call before it may refuse, so that the next call is found.


def answer_read(reader, message):
    at = reader.take_number()
    msg = reader.take_row()
    return read_name(msg, at)


def answer_text(reader, message):
    room = reader.take_number()
    name = reader.take_row()
    check_range(room, MOST_TEXT_ROOM)
    text = text_of(labels_of(name))
    return [len(text)] + text[:room]


def answer_wire(reader, message):
    text = reader.take_row()
    name = written(labels_told(text))
    return [len(name)] + name


def answer_order(reader, message):
    a = reader.take_row()
    b = reader.take_row()
    try:
        return [order_of(labels_of(a), labels_of(b))]
    except NoName:
        # Here -1 says that a comes before b.
        return [NO_NAME_TO_ORDER]


def answer_under(reader, message):
    a = reader.take_row()
    b = reader.take_row()
    return [1 if is_under(labels_of(a), labels_of(b)) else 0]


def answer_begin(reader, message):
    message.begin()
    return [0]


def answer_put(reader, message):
    message.put(reader.take_row())
    return [0]


def answer_name(reader, message):
    pack = reader.take_number()
    row = reader.take_row()
    check_range(pack, MOST_PACK)
    name = written(labels_of(row))
    if pack == 1:
        message.put_packed_name(name)
    else:
        message.put_name(name)
    return [0]


def answer_take(reader, message):
    room = reader.take_number()
    check_range(room, MOST_TAKE_ROOM)
    return [len(message.content)] + message.content[:room]


ANSWERS_BY_NUMBER = {
    0: answer_read,
    1: answer_text,
    2: answer_wire,
    3: answer_order,
    4: answer_under,
    5: answer_begin,
    6: answer_put,
    7: answer_name,
    8: answer_take,
}


def answer_next(reader, message):
    """The numbers that the next call is answered with."""
    answer = ANSWERS_BY_NUMBER[reader.take_number()]
    try:
        return answer(reader, message)
    except NoName:
        return [NO_NAME]
    except NoRoom:
        return [NO_ROOM]
    except OutOfRange:
        return [OUT_OF_RANGE]


def answers(calls):
    """What each call is answered, with how many numbers that is before it."""
    reader = CallReader(calls)
    message = Message()
    told = []
    while reader.has_more():
        numbers = answer_next(reader, message)
        told.append(len(numbers))
        told.extend(numbers)
    return told
