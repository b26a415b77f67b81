"""Numbers of a shape: finite ones, infinite ones and nan, with their ranks and words."""

from digitway.errors import BadValue, NotFinite
from digitway.shapes import DOUBLE, want_shape, want_whole

FINITE = "finite"
INFINITE = "infinite"
NAN = "nan"

# What stands ahead of a text, by the sign.
MARKS = ("", "-")


class Number:
    """A finite number; infinite() and nan() make the others. It never changes."""

    def __init__(self, shape=DOUBLE, *, sign=0, significand=0, exponent=None):
        want_shape(shape)
        want_whole(sign, 0, 1, "sign")
        precision, low, high = shape
        want_whole(significand, 0, (1 << precision) - 1, "significand")
        scale = low if exponent is None else exponent
        want_whole(scale, low, high, "exponent")
        if scale > low and significand < first_normal(shape):
            raise BadValue("exponent")
        self.own_shape = shape
        self.own_sign = sign
        self.own_significand = significand
        self.own_exponent = scale
        self.state = FINITE

    def shape(self):
        return self.own_shape

    def sign(self):
        return self.own_sign

    def kind(self):
        """One of "zero", "subnormal", "normal", "infinite" and "nan"."""
        if self.state != FINITE:
            return self.state
        if self.own_significand == 0:
            return "zero"
        if self.own_significand < first_normal(self.own_shape):
            return "subnormal"
        return "normal"

    def parts(self):
        """The pair (significand, exponent)."""
        if self.state != FINITE:
            raise NotFinite(self.state)
        return (self.own_significand, self.own_exponent)

    def value(self):
        """The value as a fraction in lowest terms."""
        significand, exponent = self.parts()
        return by_twos(-significand if self.own_sign == 1 else significand, exponent)

    def rank(self):
        """The count of steps from zero, below 0 with sign 1."""
        if self.state == NAN:
            raise NotFinite(self.state)
        steps = steps_from_zero(self)
        return -steps if self.own_sign == 1 else steps

    def word(self):
        """The number's own word; nan has others besides, which by_word takes too."""
        if self.state == NAN:
            precision = self.own_shape[0]
            return top_word(self.own_shape) + (1 << (precision - 2))
        steps = top_word(self.own_shape) if self.state == INFINITE else steps_from_zero(self)
        return steps + sign_word(self.own_shape) if self.own_sign == 1 else steps

    def up(self):
        """The number of the next rank above."""
        return moved(self, 1)

    def down(self):
        """The number of the next rank below."""
        return moved(self, -1)

    def negated(self):
        """The like number of the other sign; of nan itself."""
        if self.state == NAN:
            return self
        if self.state == INFINITE:
            return infinite(self.own_shape, sign=1 - self.own_sign)
        significand, exponent = self.parts()
        return Number(self.own_shape, sign=1 - self.own_sign, significand=significand, exponent=exponent)

    def __eq__(self, other):
        return (
            isinstance(other, Number)
            and self.own_shape == other.own_shape
            and self.state == other.state
            and self.own_sign == other.own_sign
            and self.own_significand == other.own_significand
            and self.own_exponent == other.own_exponent
        )

    def __str__(self):
        if self.state == NAN:
            return "nan"
        if self.state == INFINITE:
            return f"{MARKS[self.own_sign]}inf"
        return f"{MARKS[self.own_sign]}{self.own_significand}p{self.own_exponent}"

    def __repr__(self):
        return f"Number({str(self)})"


def infinite(shape=DOUBLE, *, sign=0):
    """The infinite number of a shape and a sign."""
    made = Number(shape, sign=sign)
    made.state = INFINITE
    return made


def nan(shape=DOUBLE):
    """The nan of a shape."""
    made = Number(shape)
    made.state = NAN
    return made


def greatest(shape=DOUBLE, *, sign=0):
    """The finite number of a sign that is farthest from zero."""
    want_shape(shape)
    precision, low, high = shape
    return Number(shape, sign=sign, significand=(1 << precision) - 1, exponent=high)


def by_rank(rank, shape=DOUBLE):
    """The number of a rank; of 0 the zero of sign 0."""
    want_shape(shape)
    last = last_rank(shape)
    want_whole(rank, -last, last, "rank")
    return by_steps(abs(rank), shape, 1 if rank < 0 else 0)


def by_word(word, shape=DOUBLE):
    """The number of a word; of each word of nan the one nan."""
    want_shape(shape)
    signed = sign_word(shape)
    want_whole(word, 0, 2 * signed - 1, "word")
    sign, steps = divmod(word, signed)
    top = top_word(shape)
    if steps > top:
        return nan(shape)
    if steps == top:
        return infinite(shape, sign=sign)
    # A shape may have fewer exponents than its field could tell apart.
    if steps >= last_rank(shape):
        raise BadValue("word")
    return by_steps(steps, shape, sign)


def compare(one, other):
    """-1, 0 or 1 as one is less than, like or more than the other; None of nan."""
    want_number(one)
    want_number(other)
    if one.kind() == NAN or other.kind() == NAN:
        return None
    if one.kind() == INFINITE or other.kind() == INFINITE:
        return order(side(one), side(other))
    above, below = one.value()
    other_above, other_below = other.value()
    return order(above * other_below, other_above * below)


def between(one, other):
    """How many ranks lie between those of two numbers of one shape."""
    want_number(one)
    want_number(other)
    if one.shape() != other.shape():
        raise BadValue("shape")
    return max(0, abs(one.rank() - other.rank()) - 1)


def want_number(thing):
    """Refuse anything but a number."""
    if not isinstance(thing, Number):
        raise BadValue("number")


def want_finite(thing):
    """Refuse anything but a number, and then what isn't finite."""
    want_number(thing)
    # Only finite numbers have parts: the others refuse the question as it is wanted here.
    thing.parts()


def first_normal(shape):
    """The least significand of a normal number."""
    return 1 << (shape[0] - 1)


def last_rank(shape):
    """The rank of the infinite number of sign 0."""
    precision, low, high = shape
    return (high - low + 2) * first_normal(shape)


def field_bits(shape):
    """How many bits of a word tell its exponent: enough for HIGH - LOW + 3 of them."""
    precision, low, high = shape
    return (high - low + 2).bit_length()


def top_word(shape):
    """The word of the infinite number of sign 0."""
    return ((1 << field_bits(shape)) - 1) * first_normal(shape)


def sign_word(shape):
    """What a word has more with sign 1."""
    return first_normal(shape) << field_bits(shape)


def steps_from_zero(number):
    """The rank, sign left out, of what isn't nan."""
    if number.kind() == INFINITE:
        return last_rank(number.shape())
    significand, exponent = number.parts()
    precision, low, high = number.shape()
    return significand + (exponent - low) * first_normal(number.shape())


def by_steps(steps, shape, sign):
    """The number of a sign that is so many ranks from zero."""
    if steps == last_rank(shape):
        return infinite(shape, sign=sign)
    first = first_normal(shape)
    # Subnormal numbers and the first normal ones share the exponent LOW.
    rise = max(0, steps // first - 1)
    return Number(shape, sign=sign, significand=steps - rise * first, exponent=shape[1] + rise)


def moved(number, step):
    """The number whose rank is one step away, or itself where there is none."""
    if number.kind() == NAN:
        return number
    shape = number.shape()
    rank = number.rank() + step
    if abs(rank) > last_rank(shape):
        return number
    if rank == 0:
        return Number(shape, sign=number.sign())
    return by_rank(rank, shape)


def by_twos(numerator, exponent):
    """The numerator times 2 ** exponent as a fraction in lowest terms."""
    if exponent >= 0:
        return (numerator << exponent, 1)
    if numerator == 0:
        return (0, 1)
    twos = (numerator & -numerator).bit_length() - 1
    spare = min(twos, -exponent)
    return (numerator >> spare, 1 << (-exponent - spare))


def side(number):
    """1 or -1 of an infinite number, 0 of a finite one."""
    if number.kind() != INFINITE:
        return 0
    return -1 if number.sign() == 1 else 1


def order(left, right):
    """-1, 0 or 1 as left is less than, equal to or more than right."""
    if left == right:
        return 0
    return -1 if left < right else 1
