"""What the tests share: asking the program, and slow, plain second ways."""

from fractions import Fraction
from math import isqrt

from cogterms.fractions import answers

FAR = 9007199254740992

TERMS = 0
VALUE = 1
ROOT = 2
RING = 3
NEAR = 4
NEAR_ROOT = 5
BETWEEN = 6
ONE = 7
MINUS_ONE = 8


def value_call(row):
    return [VALUE, len(row)] + list(row)


def joined(calls):
    """One list to hand in, of calls one behind another."""
    return [number for call in calls for number in call]


def split(told):
    """The answers that stand in what was given back, each a list."""
    found = []
    at = 0
    while at < len(told):
        end = at + 1 + told[at]
        if end > len(told):
            raise AssertionError("an answer is shorter than told")
        found.append(told[at + 1:end])
        at = end
    return found


def ask(call):
    """What one call alone answers."""
    found = split(answers(list(call)))
    if len(found) != 1:
        raise AssertionError("one call was answered %d times" % len(found))
    return found[0]


def is_square(n):
    return isqrt(n) ** 2 == n


def slow_terms(number):
    """The terms of a Fraction, as the words tell them."""
    row = []
    while True:
        whole = number.numerator // number.denominator
        row.append(whole)
        if number == whole:
            return row
        number = 1 / (number - whole)


def slow_value(row):
    """The Fraction whose terms these are, from the last one on."""
    number = Fraction(row[-1])
    for term in row[-2::-1]:
        number = term + 1 / number
    return number


def slow_near(n, d, m):
    """The nearest of all fractions with a number below from 1 to m."""
    number = Fraction(n, d)
    every = []
    for below in range(1, m + 1):
        whole = n * below // d
        # Where going on from 0 would take too long, those farther off are left out.
        first = 0 if n * m <= 100 * d else whole - 2
        for above in range(first, whole + 3):
            every.append((abs(Fraction(above, below) - number), below, above))
    nearest = min(every)
    return [0, nearest[2], nearest[1]]


def slow_near_root(n, m):
    """The nearest to n's square root of all fractions with a number below from 1 to m."""
    not_above = []
    not_below = []
    for below in range(1, m + 1):
        whole = isqrt(n * below * below)
        # Where going on from 0 would take too long, those farther off are left out.
        first = 0 if n <= 100 and m <= 30 else max(0, whole - 2)
        for above in range(first, whole + 3):
            if above * above <= n * below * below:
                not_above.append(Fraction(above, below))
            if above * above >= n * below * below:
                not_below.append(Fraction(above, below))
    lesser = max(not_above)
    greater = min(not_below)
    middle = (lesser + greater) / 2
    # The middle is the root itself only where both of them are.
    nearest = lesser if middle * middle >= n else greater
    return [0, nearest.numerator, nearest.denominator]


def slow_between(a, b, c, d):
    """The simplest between a / b and c / d, going through the numbers below."""
    below = 1
    while True:
        above = a * below // b + 1
        if above * d < c * below:
            return [0, above, below]
        below += 1


def slow_pairs(n, apart, most):
    """All x and y with x x - n y y = apart, y from 1 to most, going through y."""
    found = []
    for y in range(1, most + 1):
        square = n * y * y + apart
        x = isqrt(square)
        if x * x == square and x > 0:
            found.append((x, y))
    return found


class Surd:
    """The number a + b times the square root of n, a and b Fractions."""

    def __init__(self, a, b, n):
        self.a = Fraction(a)
        self.b = Fraction(b)
        self.n = n

    def less(self, whole):
        return Surd(self.a - whole, self.b, self.n)

    def turned(self):
        """1 divided by it."""
        below = self.a * self.a - self.b * self.b * self.n
        return Surd(self.a / below, -self.b / below, self.n)

    def above(self, whole):
        """Whether it is above a whole number; it is never one itself."""
        rest = self.a - whole
        rest_is_wider = rest * rest > self.b * self.b * self.n
        return rest > 0 if rest_is_wider else self.b > 0

    def parts(self):
        return (self.a, self.b)


def after_terms(number, row):
    """What is left of a Surd behind these terms, or None if they are not its own."""
    for term in row:
        if not number.above(term) or number.above(term + 1):
            return None
        number = number.less(term).turned()
    return number


def ring_fault(p, q, n, ahead, ring):
    """What is wrong with the terms told of (p + the square root of n) / q; None if nothing is."""
    start = after_terms(Surd(Fraction(p, q), Fraction(1, q), n), ahead)
    if start is None:
        return "the terms ahead are not its own"
    if not ring:
        return "the ring is empty"
    number = start
    for k, term in enumerate(ring):
        if k > 0 and number.parts() == start.parts():
            return "the ring could be shorter"
        number = after_terms(number, [term])
        if number is None:
            return "the ring's terms are not its own"
    if number.parts() != start.parts():
        return "the ring does not close"
    if ahead and ahead[-1] == ring[-1]:
        return "the terms ahead could be fewer"
    return None
