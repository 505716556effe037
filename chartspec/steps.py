"""Round steps, and the multiples of a step."""

from chartspec.fractions import ceiling_of, compare, floor_of, fraction_text, over, ten_to, times


def round_step(fraction):
    """The least round step that is not less than a fraction above 0."""
    above, below = fraction
    step = power_of_ten(len(str(above)) - len(str(below)) - 1)
    # By the numbers of their digits this power is less than the fraction, and at most by a factor of 100.
    while compare(step, fraction) < 0:
        step = step_after(step)
    return step


def power_of_ten(exponent):
    """The power of ten with this exponent, a fraction."""
    return (ten_to(exponent), 1) if exponent >= 0 else (1, ten_to(-exponent))


def step_after(step):
    """The round step after a round step."""
    digit = fraction_text(step).strip("0.")
    return times(step, (5, 2) if digit == "2" else (2, 1))


def multiples(step, low, high):
    """The multiples of a fraction above 0 from `low` to `high`, both included, a tuple in ascending order."""
    first, last = ceiling_of(over(low, step)), floor_of(over(high, step))
    return tuple([times(step, (number, 1)) for number in range(first, last + 1)])
