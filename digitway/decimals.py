"""Decimals: a sign, digits and a power of ten."""

from digitway.errors import BadValue
from digitway.numbers import MARKS, by_twos
from digitway.shapes import raised, want_whole

# Ten to 2,000: above all digits.
DIGITS_END = (10 ** 50) ** 40
POWER_MOST = 20000


class Decimal:
    """A decimal. It never changes."""

    def __init__(self, digits=0, power=0, *, sign=0):
        want_whole(digits, 0, DIGITS_END - 1, "digits")
        want_whole(power, -POWER_MOST, POWER_MOST, "power")
        want_whole(sign, 0, 1, "sign")
        self.own_digits = digits
        self.own_power = power
        self.own_sign = sign

    def digits(self):
        return self.own_digits

    def tens(self):
        return self.own_power

    def sign(self):
        return self.own_sign

    def value(self):
        """The value as a fraction in lowest terms."""
        signed = -self.own_digits if self.own_sign == 1 else self.own_digits
        if self.own_power >= 0:
            return (signed * raised(10, self.own_power), 1)
        return over_tens(signed, -self.own_power)

    def plain(self):
        """The like decimal whose digits don't end in a 0; refused where its power would be too great."""
        if self.own_digits == 0:
            return Decimal(sign=self.own_sign)
        figures = str(self.own_digits)
        kept = figures.rstrip("0")
        return Decimal(int(kept), self.own_power + len(figures) - len(kept), sign=self.own_sign)

    def __eq__(self, other):
        return (
            isinstance(other, Decimal)
            and self.own_digits == other.own_digits
            and self.own_power == other.own_power
            and self.own_sign == other.own_sign
        )

    def __len__(self):
        return len(str(self.own_digits))

    def __str__(self):
        return f"{MARKS[self.own_sign]}{self.own_digits}e{self.own_power}"

    def __repr__(self):
        return f"Decimal({str(self)})"


def want_decimal(thing):
    """Refuse anything but a decimal."""
    if not isinstance(thing, Decimal):
        raise BadValue("decimal")


def over_tens(numerator, many):
    """The numerator over 10 ** many as a fraction in lowest terms."""
    if numerator == 0:
        return (0, 1)
    kept = numerator
    fives = 0
    while fives < many and kept % 5 == 0:
        kept //= 5
        fives += 1
    above, below = by_twos(kept, -many)
    return (above, below * raised(5, many - fives))
