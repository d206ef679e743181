"""The best rules for one of both polynomials, and those of Adams, Moulton and the backward ones."""

from legsteps.arithmetic import NOUGHT, as_fraction, raw_product, sum_of
from legsteps.circle import shifted
from legsteps.errors import InvalidPolynomial, LostStep, NotLevel, TooManySteps
from legsteps.numbers import check_number
from legsteps.polys import check_not_nought, check_polynomial
from legsteps.wholes import cleared


def moved(row, step):
    """The row of fractions of the polynomial whose worth at z is that of this one at z + step, a whole number."""
    numbers, parts = cleared(row)
    return [as_fraction(each, parts) for each in shifted(numbers, step)]


def log_number(power):
    """The number of this power of w in log (1 + w) over w."""
    return (1 if power % 2 == 0 else -1, power + 1)


def filled(row, many):
    """The tuple of the row, filled up with noughts to so many."""
    return tuple(row) + (NOUGHT,) * (many - len(row))


def over_log(polynomial, many):
    """The first so many powers of z - 1 in the polynomial, which is 0 at 1, over log z, as a polynomial in z."""
    above = moved(polynomial, 1)[1:]
    found = []
    for power in range(many):
        pairs = [above[power]] if power < len(above) else []
        for at, each in enumerate(found):
            number, parts = raw_product(each, log_number(power - at))
            pairs.append((-number, parts))
        found.append(sum_of(pairs))
    return moved(found, -1)


def check_level(polynomial):
    """Raise InvalidPolynomial for what is no polynomial of a degree from 1 to 8, NotLevel if it is not 0 at 1."""
    check_polynomial(polynomial)
    if len(polynomial) < 2 or len(polynomial) > 9:
        raise InvalidPolynomial(polynomial)
    if sum_of(polynomial) != NOUGHT:
        raise NotLevel()


def best(polynomial):
    """The rule with this first polynomial whose order is at least its steps and 1."""
    check_level(polynomial)
    return (polynomial, tuple(over_log(polynomial, len(polynomial))))


def best_explicit(polynomial):
    """The explicit rule with this first polynomial whose order is at least its steps."""
    check_level(polynomial)
    many = len(polynomial)
    return (polynomial, filled(over_log(polynomial, many - 1), many))


def best_first(polynomial, steps):
    """The rule of so many steps with this second polynomial whose order is at least its steps."""
    check_not_nought(polynomial)
    check_number(steps, 1, 8)
    if len(polynomial) > steps + 1:
        raise TooManySteps()
    powers = moved(polynomial, 1)
    found = [NOUGHT]
    for power in range(steps):
        pairs = [raw_product(each, log_number(power - at)) for at, each in enumerate(powers[:power + 1])]
        found.append(sum_of(pairs))
    if found[-1] == NOUGHT:
        raise LostStep()
    return (tuple(moved(found, -1)), filled(polynomial, steps + 1))


def last_power(steps):
    """z to the power of the steps."""
    return (NOUGHT,) * steps + ((1, 1),)


def last_step(steps):
    """z to the power of the steps less z to the power before it."""
    return (NOUGHT,) * (steps - 1) + ((-1, 1), (1, 1))


def adams(steps):
    """The Adams rule."""
    check_number(steps, 1, 8)
    return best_explicit(last_step(steps))


def moulton(steps):
    """The Moulton rule."""
    check_number(steps, 1, 8)
    return best(last_step(steps))


def backward(steps):
    """The backward rule."""
    check_number(steps, 1, 8)
    return best_first(last_power(steps), steps)
