"""Names as text, and text as names."""

from labelpack.names import NoName

POINT = 46
BACKSLASH = 92
ZERO = 48
NINE = 57
LOWEST_PLAIN = 33
HIGHEST_PLAIN = 126
HIGHEST_BYTE = 255


def told_byte(byte):
    """A label's byte as it is told in a text."""
    if byte == POINT or byte == BACKSLASH:
        return [BACKSLASH, byte]
    if byte < LOWEST_PLAIN or byte > HIGHEST_PLAIN:
        return [BACKSLASH, ZERO + byte // 100, ZERO + byte // 10 % 10, ZERO + byte % 10]
    return [byte]


def text_of(labels):
    """The text that tells the name of these labels."""
    if len(labels) == 0:
        return [POINT]
    text = []
    for label in labels:
        for byte in label:
            text.extend(told_byte(byte))
        text.append(POINT)
    return text


def is_digit(character):
    return ZERO <= character <= NINE


def sign_length(text, place):
    """How many characters the sign at this place should have: a plain one, or a backslash and what it takes."""
    if text[place] != BACKSLASH:
        return 1
    if place + 1 < len(text) and is_digit(text[place + 1]):
        return 4
    return 2


def sign_at(text, place):
    """The characters that tell one byte of a label, from this place on."""
    length = sign_length(text, place)
    if place + length > len(text):
        raise NoName("a backslash has too little behind it")
    return text[place:place + length]


def byte_of(sign):
    """The byte that a sign tells."""
    if len(sign) < 4:
        return sign[-1]
    byte = 0
    for character in sign[1:]:
        if not is_digit(character):
            raise NoName("a backslash and a digit are not followed by two more")
        byte = byte * 10 + character - ZERO
    if byte > HIGHEST_BYTE:
        raise NoName("digits are above 255")
    return byte


def labels_told(text):
    """The labels that a text tells; one may be empty, or too long to be written."""
    if text == [POINT]:
        return []
    labels = []
    label = []
    place = 0
    while place < len(text):
        if text[place] == POINT:
            labels.append(label)
            label = []
            place += 1
        else:
            sign = sign_at(text, place)
            label.append(byte_of(sign))
            place += len(sign)
    # Nothing behind the last point is no label: a name may end with a point.
    if len(label) > 0:
        labels.append(label)
    if len(labels) == 0:
        raise NoName("a text is empty")
    return labels
