"""Values that several tests share."""

from fractions import Fraction
from random import Random

NIL, ONE, TWO, HALF = (0, 1), (1, 1), (2, 1), (1, 2)
HUGE = 10 ** 399 + 7
LESS_ONE, MORE_ONE = ((-1, 1), ONE), (ONE, ONE)

# The rules of the document.
EULER, BACK_EULER = (LESS_ONE, (ONE, NIL)), (LESS_ONE, (NIL, ONE))
HALVES, LEAP = (LESS_ONE, (HALF, HALF)), (((-1, 1), NIL, ONE), (NIL, TWO, NIL))
TWIN, WILD = ((HALF, (-2, 1), (3, 2)), (NIL, NIL, ONE)), (((-5, 1), (4, 1), ONE), (TWO, (4, 1), NIL))
FLAT, SLOW = ((ONE, ONE), (ONE, NIL)), (LESS_ONE, (TWO, NIL))
THREE = (((-1, 3), (3, 2), (-3, 1), (11, 6)), (NIL, NIL, NIL, ONE))
# It damps all numbers below 0 but one that is no fraction: there (at two turns) roots touch the circle from inside. Its
# side wave by sin t is (c c + 5 c - 1) squared times (3 + 8 c + 6 c c), with c = cos t.
TOUCHING = (
    ((3, 32), (17, 8), (457, 32), (111, 4), (1313, 32), (305, 8), (955, 32), (69, 4)), (NIL,) * 7 + (ONE,),
)
# It damps all numbers below 0 but two: one that is no fraction, and - 39 / 8. Its side wave by sin t is (c c + 6 c - 2)
# squared times (5 c + 4) squared times 2.
TOUCHING_TWICE = (
    ((25, 32), (85, 4), (5309, 32), (303, 1), (10209, 32), (1273, 4), (9021, 32), (1001, 8)), (NIL,) * 7 + (ONE,),
)


class Sly:
    """An object that says that it is equal to anything, and fails at all else that it is asked."""

    def __eq__(self, other):
        return True

    def __len__(self):
        raise RuntimeError("asked for its length")

    def __getitem__(self, at):
        raise RuntimeError("asked for an item")

    def __iter__(self):
        raise RuntimeError("iterated")

    def __bool__(self):
        raise RuntimeError("asked whether it is true")


class Hostile(Sly):
    """An object that fails when it is compared, too."""

    def __eq__(self, other):
        raise RuntimeError("compared")

    __ne__ = __eq__


def nested(depth):
    """A tuple within a tuple, so often."""
    return (nested(depth - 1),) if depth else ()


# None of these is a fraction, a point or a polynomial, and no part of one.
ODD_VALUES = (
    None, True, False, 0, 1, -1, HUGE, "", "1/2", "01", b"", b"\x00\x01", [], [0, 1], [ONE, ONE], {}, {0: 1}, {(0, 1): 1},
    set(), {0, 1}, frozenset({1, 2}), range(0), range(2), Fraction(1, 2), object(), int, tuple, len, ValueError("x"),
    iter((0, 1)), (each for each in (0, 1)), Sly(), Hostile(), nested(14), ((), ()), (None,), (None, None), (ONE, None),
    ("0", "1"), ("", ""), (Sly(), Hostile()), (Hostile(), 1), (0, Sly()), (((0, 1), (1, 1)), ((0, 1), (1, 1))),
)

# Each is a pair of values, but no fraction.
ODD_PAIRS = (
    (True, 1), (False, 1), (1, True), (0, True), (True, True), (0, 2), (0, 0), (0, -1), (1, 0), (-1, 0), (1, -1), (-1, -2),
    (2, 4), (-2, 4), (2, 2), (-3, 3), (6, 4), (HUGE, HUGE), (2 * HUGE, 4), (0, HUGE), (1, -HUGE), ("1", 2), (1, "2"),
    (None, 1), (1, None), ([1], 2), ((1,), 2), (1, (2,)), (ONE, 1), (b"1", 1), (Fraction(1), 1), (1, Fraction(2)),
)

# Each has whole numbers alone, but not two of them, or is not a tuple.
ODD_ROWS = ((1,), (0, 1, 1), (1, 2, 3), (0, 0, 0, 0), [0, 1], [1, 2], {0: 1, 1: 2}, range(1, 3))

FRACTIONS = (
    NIL, ONE, TWO, HALF, (-1, 1), (-1, 2), (3, 4), (-7, 3), (1, HUGE), (HUGE, 1), (-HUGE, HUGE + 1), (7, 10 ** 399),
)


def pair_of(number):
    """The fraction for what Python calls one, or a whole number."""
    return Fraction(number).as_integer_ratio()


def python_of(fraction):
    """What Python calls a fraction."""
    return Fraction(fraction[0], fraction[1])


def polynomial_of(numbers):
    """The polynomial for a row of whole numbers, or of Python's fractions."""
    numbers = list(numbers)
    while numbers and numbers[-1] == 0:
        numbers.pop()
    return tuple(pair_of(each) for each in numbers)


def some_polynomials(many, greatest=4, powers=6):
    """So many polynomials, the same ones at each call, noughts and nought ones among them."""
    random = Random(20261119)
    found = []
    for _ in range(many):
        row = [Fraction(random.randint(-greatest, greatest), random.randint(1, 3)) for _ in range(random.randint(0, powers))]
        found.append(polynomial_of(row))
    return found


def rule_of(first, second):
    """The rule for two rows of whole numbers, or of Python's fractions."""
    return (tuple(pair_of(each) for each in first), tuple(pair_of(each) for each in second))


def scaled(rule, factor):
    """The rule with all numbers times the factor."""
    return rule_of(*[[python_of(each) * factor for each in row] for row in rule])


def some_rules(many, steps=(1, 2, 3, 4), greatest=4, seed=7):
    """So many rules, the same ones at each call, some of which converge, and some of which have the second part 0."""
    random = Random(seed)
    found = []
    while len(found) < many:
        length = random.choice(steps) + 1
        first = [Fraction(random.randint(-greatest, greatest), random.randint(1, 3)) for _ in range(length)]
        second = [Fraction(random.randint(-greatest, greatest), random.randint(1, 3)) for _ in range(length)]
        if random.random() < 0.5:
            first[0] -= sum(first)
        if random.random() < 0.05:
            second = [0] * length
        if first[-1] != 0:
            found.append(rule_of(first, second))
    return found


def product_of(*factors):
    """The product of polynomials that are told as rows of numbers."""
    found = [Fraction(1)]
    for factor in factors:
        made = [Fraction(0)] * (len(found) + len(factor) - 1)
        for at, left in enumerate(found):
            for to, right in enumerate(factor):
                made[at + to] += left * right
        found = made
    return found


def times_both(rule, *factors):
    """The rule times a polynomial, which is told by factors."""
    return rule_of(*[product_of([python_of(each) for each in row], *factors) for row in rule])


def near_roots(numbers):
    """The roots of a polynomial with complex numbers, near (Durand and Kerner); the last number is not 0."""
    numbers = [complex(each) / complex(numbers[-1]) for each in numbers]
    roots = [complex(0.4, 0.9) ** at * (1 + max(abs(each) for each in numbers)) for at in range(len(numbers) - 1)]
    for _ in range(400):
        moved = []
        for at, root in enumerate(roots):
            told, below = 0, 1
            for each in reversed(numbers):
                told = told * root + each
            for to, other in enumerate(roots):
                if to != at:
                    below *= root - other
            moved.append(root - told / below if below else root + 1e-9)
        if max([abs(one - other) for one, other in zip(roots, moved)], default=0) < 1e-15:
            return moved
        roots = moved
    return roots
