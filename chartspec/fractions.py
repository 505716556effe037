"""Fractions (numerator, denominator) in lowest terms, and their texts."""

from math import gcd

ZERO = (0, 1)


def lowest(numerator, denominator):
    """The fraction with this value; the denominator is not 0 but may be negative."""
    divisor = gcd(numerator, denominator)
    if denominator < 0:
        divisor = -divisor
    return (numerator // divisor, denominator // divisor)


def plus(a, b):
    """The sum of two fractions."""
    return lowest(a[0] * b[1] + b[0] * a[1], a[1] * b[1])


def minus(a, b):
    """The difference of two fractions."""
    return lowest(a[0] * b[1] - b[0] * a[1], a[1] * b[1])


def times(a, b):
    """The product of two fractions."""
    return lowest(a[0] * b[0], a[1] * b[1])


def over(a, b):
    """The quotient of two fractions; the second one is not zero."""
    return lowest(a[0] * b[1], a[1] * b[0])


def compare(a, b):
    """-1, 0 or 1, if the first fraction is less than the second one, equal or greater."""
    left, right = a[0] * b[1], b[0] * a[1]
    if left == right:
        return 0
    return -1 if left < right else 1


def floor_of(a):
    """The greatest integer that is not above the fraction."""
    return a[0] // a[1]


def ceiling_of(a):
    """The least integer that is not below the fraction."""
    return -(-a[0] // a[1])


def nearest_of(a):
    """The integer nearest to the fraction, of two that are equally near the greater one."""
    return (2 * a[0] + a[1]) // (2 * a[1])


def multiple_below(step, a):
    """The greatest multiple of a fraction above 0 that is not above the second fraction."""
    return times(step, (floor_of(over(a, step)), 1))


def multiple_above(step, a):
    """The least multiple of a fraction above 0 that is not below the second fraction."""
    return times(step, (ceiling_of(over(a, step)), 1))


def as_number(a):
    """The fraction if it is a number, otherwise None."""
    numerator, denominator = a
    bound = 10 ** 12
    return a if abs(numerator) < bound and denominator < bound else None


def fraction_text(a):
    """The text of a fraction."""
    numerator, denominator = a
    if not is_decimal(denominator):
        return f"{numerator}/{denominator}"
    sign = "-" if numerator < 0 else ""
    whole, rest = divmod(abs(numerator), denominator)
    if rest == 0:
        return f"{sign}{whole}"
    return f"{sign}{whole}.{decimal_digits(rest, denominator)}"


def read_fraction(text):
    """The fraction with this text, or None if it is the text of none."""
    unsigned = text[1:] if text.startswith("-") else text
    found = read_quotient(unsigned) if "/" in unsigned else read_decimal(unsigned)
    if found is not None and unsigned != text:
        found = (-found[0], found[1])
    # Many spellings have a value, but only one of them is its text.
    if found is None or fraction_text(found) != text:
        return None
    return found


def is_decimal(denominator):
    """True if the denominator has no prime factors but 2 and 5, otherwise False."""
    rest = denominator
    for factor in (2, 5):
        while rest % factor == 0:
            rest = rest // factor
    return rest == 1


def decimal_digits(rest, denominator):
    """The digits behind the point of rest / denominator, which is below 1 and has a decimal number as its text."""
    digits = []
    while rest != 0:
        digit, rest = divmod(10 * rest, denominator)
        digits.append(str(digit))
    return "".join(digits)


def read_quotient(unsigned):
    """The value of digits, a slash and digits, or None for any other text."""
    above, _, below = unsigned.partition("/")
    if not above.isdigit() or not below.isdigit() or int(below) == 0:
        return None
    return lowest(int(above), int(below))


def read_decimal(unsigned):
    """The value of digits, perhaps with a point among them, or None for any other text."""
    whole, _, digits = unsigned.partition(".")
    if not whole.isdigit() or not (digits == "" or digits.isdigit()):
        return None
    return lowest(int(whole + digits), ten_to(len(digits)))


def ten_to(many):
    """The power of ten with this many zeros."""
    return int("1" + "0" * many)
