"""Of what kind a value is that was handed in."""


def is_number(thing):
    """Whether it is a number: True and False are none, so no class that comes of int is asked for."""
    return type(thing) is int


def is_within(thing, low, high):
    """Whether it is a number from low to high."""
    return is_number(thing) and low <= thing <= high


def is_tuple(thing):
    """Whether it is a tuple, where one is asked: a list is none."""
    return type(thing) is tuple


def is_list(thing):
    """Whether it may stand where a list is spoken of: a tuple may, too."""
    return type(thing) is list or is_tuple(thing)


def is_text(thing, text):
    """Whether it is this string: a value of another kind that counts as equal to it is none."""
    return type(thing) is str and thing == text
