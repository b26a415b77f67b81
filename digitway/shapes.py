"""Shapes of numbers: (PRECISION, LOW, HIGH), and the checks that go with them."""

from digitway.errors import BadValue

HALF = (11, -24, 5)
SINGLE = (24, -149, 104)
DOUBLE = (53, -1074, 971)

LOW_LEAST = -1100


def is_whole(thing, least, most):
    """Whether anything is a whole number from least to most; True and False are none."""
    return isinstance(thing, int) and not isinstance(thing, bool) and least <= thing <= most


def is_shape(thing):
    """Whether anything is a shape."""
    return (
        isinstance(thing, tuple)
        and len(thing) == 3
        and is_whole(thing[0], 2, 64)
        and is_whole(thing[1], LOW_LEAST, 0)
        and is_whole(thing[2], thing[1], 1000)
    )


def want_whole(thing, least, most, what):
    """Refuse, as what, anything but a whole number from least to most."""
    if not is_whole(thing, least, most):
        raise BadValue(what)


def want_shape(thing):
    """Refuse anything but a shape."""
    if not is_shape(thing):
        raise BadValue("shape")


def raised(base, many):
    """base to the power many; 1 where many is 0."""
    power = 1
    # From the top bit down, so that nothing on the way is longer than the answer.
    for place in reversed(range(many.bit_length())):
        power *= power
        if (many >> place) & 1:
            power *= base
    return power
