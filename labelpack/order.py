"""Names put in order, whether their letters are small or capital."""

from labelpack.names import small


def small_label(label):
    return [small(byte) for byte in label]


def last_first(labels):
    """The labels in small letters, the last one first, as it weighs the most."""
    return [small_label(label) for label in reversed(labels)]


def order_of(a, b):
    """-1, 0 or 1, as the name of labels a comes before that of b, is the same but for case, or comes after."""
    one = last_first(a)
    other = last_first(b)
    # Lists compare as names and labels do: the first difference decides, and a beginning comes first.
    if one < other:
        return -1
    if one > other:
        return 1
    return 0


def is_under(a, b):
    """Whether the last labels of a are all those of b, but for case."""
    return last_first(a)[:len(b)] == last_first(b)
