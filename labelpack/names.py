"""Names: labels in a row, and the bytes that they are written as."""

LONGEST_LABEL = 63
LONGEST_NAME = 255
CAPITAL_A = 65
CAPITAL_Z = 90
TO_SMALL = 32


class NoName(Exception):
    """There is no name where one is looked for."""


def labels_of(name):
    """The labels of the name that is written from the first of 255 bytes on."""
    labels = []
    place = 0
    while place < LONGEST_NAME and name[place] != 0:
        length = name[place]
        if length > LONGEST_LABEL:
            raise NoName("a length is above 63")
        labels.append(name[place + 1:place + 1 + length])
        place += 1 + length
    if place >= LONGEST_NAME:
        raise NoName("no end within 255 bytes")
    return labels


def written(labels):
    """The bytes that a name of these labels is written as."""
    name = []
    for label in labels:
        if len(label) == 0 or len(label) > LONGEST_LABEL:
            raise NoName("a label has not 1 to 63 bytes")
        name.append(len(label))
        name.extend(label)
    name.append(0)
    if len(name) > LONGEST_NAME:
        raise NoName("a name has more than 255 bytes")
    return name


def small(byte):
    """The byte that stands for this one and all that are the same but for case."""
    if CAPITAL_A <= byte <= CAPITAL_Z:
        return byte + TO_SMALL
    return byte
