"""The calls about terms, rings, fractions and squares, answered one by one."""

TERMS = 0
VALUE = 1
ROOT = 2
RING = 3
NEAR = 4
NEAR_ROOT = 5
BETWEEN = 6
ONE = 7

# How many numbers a call takes up, its own number among them; value's row comes on top.
CALL_LENGTHS = {0: 3, 1: 2, 2: 2, 3: 4, 4: 4, 5: 3, 6: 5, 7: 3, 8: 2}

OUT_OF_BOUNDS = -1
NOT_FITTING = -3
NONE_THERE = -6

MOST_FRACTION = 1000000
MOST_TERMS = 20
MOST_TERM = 1000
MOST_ROOT = 1000000
MOST_RING_PART = 100
MOST_RING_ROOT = 1000
MOST_BELOW = 300
MOST_TIMES = 1000
MOST_SOLUTION = 5


def answers(calls):
    """For each call, in order, how many numbers it answers, then these."""
    told = []
    start = 0
    while start < len(calls):
        end = start + call_length(calls, start)
        answer = answer_call(calls[start:end])
        told.append(len(answer))
        told.extend(answer)
        start = end
    return told


def call_length(calls, start):
    """How many numbers the call that begins at start takes up."""
    length = CALL_LENGTHS[calls[start]]
    if calls[start] == VALUE:
        return length + calls[start + 1]
    return length


def answer_call(call):
    """What one call answers: a refusal alone, or all that is told."""
    if call[0] == TERMS:
        return answer_terms(call[1], call[2])
    if call[0] == VALUE:
        return answer_value(call[2:])
    if call[0] == ROOT:
        return answer_root(call[1])
    if call[0] == RING:
        return answer_ring(call[1], call[2], call[3])
    if call[0] == NEAR:
        return answer_near(call[1], call[2], call[3])
    if call[0] == NEAR_ROOT:
        return answer_near_root(call[1], call[2])
    if call[0] == BETWEEN:
        return answer_between(call[1], call[2], call[3], call[4])
    if call[0] == ONE:
        return answer_one(call[1], call[2])
    # A number without a length never gets here, so what is left is minus one.
    return answer_minus_one(call[1])


def answer_terms(n, d):
    """How many terms n / d has, then these."""
    if d == 0 or d > MOST_FRACTION or abs(n) > MOST_FRACTION:
        return [OUT_OF_BOUNDS]
    row = fraction_terms(n, d)
    return [len(row)] + row


def answer_value(row):
    """0, then the upper and the lower number of the fraction with these terms."""
    if len(row) == 0 or len(row) > MOST_TERMS:
        return [OUT_OF_BOUNDS]
    if max(row) > MOST_TERM or min(row) < -MOST_TERM:
        return [OUT_OF_BOUNDS]
    if min(row[1:], default=1) < 1:
        return [NOT_FITTING]
    return [0] + terms_fraction(row)


def answer_root(n):
    """How many terms the ring of n's square root has, the term ahead of it, the ring."""
    if n == 0 or n > MOST_ROOT:
        return [OUT_OF_BOUNDS]
    if is_square(n):
        return [NOT_FITTING]
    parts = ring_terms(0, 1, n)
    return [len(parts[1])] + parts[0] + parts[1]


def answer_ring(p, q, n):
    """How many terms are ahead of the ring, these, how many are in it, these."""
    if q == 0 or abs(q) > MOST_RING_PART or abs(p) > MOST_RING_PART:
        return [OUT_OF_BOUNDS]
    if n == 0 or n > MOST_RING_ROOT:
        return [OUT_OF_BOUNDS]
    if is_square(n):
        return [NOT_FITTING]
    parts = ring_terms(p, q, n)
    return [len(parts[0])] + parts[0] + [len(parts[1])] + parts[1]


def answer_near(n, d, m):
    """0, then the fraction nearest to n / d with a number below from 1 to m."""
    if d == 0 or d > MOST_FRACTION or n < 0 or n > MOST_FRACTION:
        return [OUT_OF_BOUNDS]
    if m == 0 or m > MOST_BELOW:
        return [OUT_OF_BOUNDS]
    return [0] + nearest_fraction(n, d, m)


def answer_near_root(n, m):
    """0, then the fraction nearest to n's square root with a number below from 1 to m."""
    if n == 0 or n > MOST_ROOT or m == 0 or m > MOST_BELOW:
        return [OUT_OF_BOUNDS]
    return [0] + nearest_to_root(n, m)


def answer_between(a, b, c, d):
    """0, then the simplest fraction between a / b and c / d."""
    if b == 0 or b > MOST_FRACTION or d == 0 or d > MOST_FRACTION:
        return [OUT_OF_BOUNDS]
    if a < 0 or a > MOST_FRACTION or abs(c) > MOST_FRACTION:
        return [OUT_OF_BOUNDS]
    if c * b <= a * d:
        return [NOT_FITTING]
    return [0] + terms_fraction(between_terms(a, b, c, d))


def answer_one(n, k):
    """0, then the k-th x and y with x x - n y y = 1."""
    if n == 0 or n > MOST_TIMES or k == 0 or k > MOST_SOLUTION:
        return [OUT_OF_BOUNDS]
    if is_square(n):
        return [NOT_FITTING]
    least = least_pair(n)
    if pair_apart(least, n) == -1:
        least = pair_product(least, least, n)
    pair = least
    for step in range(1, k):
        pair = pair_product(pair, least, n)
    return [0] + pair


def answer_minus_one(n):
    """0, then the least x and y with x x - n y y = -1."""
    if n == 0 or n > MOST_TIMES:
        return [OUT_OF_BOUNDS]
    if is_square(n):
        return [NOT_FITTING]
    least = least_pair(n)
    # Every pair with 1 or -1 is a power of the least, so where that has 1, all have.
    if pair_apart(least, n) == 1:
        return [NONE_THERE]
    return [0] + least


def fraction_terms(n, d):
    """The terms of n / d, d above 0."""
    row = []
    upper = n
    lower = d
    while lower > 0:
        row.append(upper // lower)
        rest = upper % lower
        upper = lower
        lower = rest
    return row


def terms_fraction(row):
    """The upper and the lower number of the fraction with these terms."""
    # 1 over 0 stands for what is behind the last term: one divided by it is nothing.
    upper = 1
    lower = 0
    for term in reversed(row):
        wider = term * upper + lower
        lower = upper
        upper = wider
    return [upper, lower]


def whole_root(n):
    """The greatest whole number whose square is not above n, n from 0 on."""
    low = 0
    high = n + 1
    while high - low > 1:
        middle = (low + high) // 2
        if middle * middle <= n:
            low = middle
        else:
            high = middle
    return low


def is_square(n):
    """Whether n, from 0 on, is a square number."""
    low = whole_root(n)
    return low * low == n


def ring_terms(p, q, n):
    """The terms of (p + the square root of n) / q ahead of the ring, and the ring; n no square number."""
    # What is left stays a fraction of this form, in whole numbers, only if the number
    # below divides the square less p's; made wider by q's size, it does.
    size = abs(q)
    square = n * size * size
    whole = whole_root(square)
    upper = p * size
    lower = q * size
    row = []
    places = {}
    # One square has one upper and lower for each number, so the first pair that
    # comes again is the first number that does: nothing shorter is a ring.
    while (upper, lower) not in places:
        places[(upper, lower)] = len(row)
        term = surd_floor(upper, lower, whole)
        row.append(term)
        upper = term * lower - upper
        lower = (square - upper * upper) // lower
    start = places[(upper, lower)]
    return (row[:start], row[start:])


def surd_floor(upper, lower, whole):
    """The greatest whole number not above (upper + a root) / lower, whole being that root's whole part."""
    # The root is never whole itself; divided by a number below 0, what bounds
    # it from above bounds the answer from below.
    if lower > 0:
        return (upper + whole) // lower
    return (upper + whole + 1) // lower


def nearest_fraction(n, d, m):
    """Above and below of the fraction nearest to n / d with a number below from 1 to m."""
    best_upper = n // d
    best_lower = 1
    best_apart = n % d
    # In this order the first of several as near is the one to tell, so only
    # what is nearer takes its place; it is in lowest terms for the same reason.
    for lower in range(1, m + 1):
        floor = n * lower // d
        for upper in (floor, floor + 1):
            apart = abs(n * lower - upper * d)
            if apart * best_lower < best_apart * lower:
                best_upper = upper
                best_lower = lower
                best_apart = apart
    return [best_upper, best_lower]


def nearest_to_root(n, m):
    """Above and below of the fraction nearest to n's square root with a number below from 1 to m."""
    best_upper = whole_root(n)
    best_lower = 1
    # Gone through in the same order as for a fraction, and for the same reasons.
    for lower in range(1, m + 1):
        floor = whole_root(n * lower * lower)
        for upper in (floor, floor + 1):
            if is_nearer_to_root(n, upper, lower, best_upper, best_lower):
                best_upper = upper
                best_lower = lower
    return [best_upper, best_lower]


def is_nearer_to_root(n, upper, lower, other_upper, other_lower):
    """Whether upper / lower is nearer to n's square root than the other fraction."""
    # The lesser of two is nearer if the middle between them is above the root, the
    # greater if it is below; squared, the middle is set against n in whole numbers.
    first = upper * other_lower
    second = other_upper * lower
    both = first + second
    twice_below = 2 * lower * other_lower
    middle_above = both * both - n * twice_below * twice_below
    return (first - second) * middle_above < 0


def between_terms(a, b, c, d):
    """The terms of the simplest fraction between a / b, from 0 on, and c / d, which is above it."""
    row = []
    low_upper = a
    low_lower = b
    high_upper = c
    high_lower = d
    whole = low_upper // low_lower
    # While no whole number lies between, all that does has this whole part; one by what is
    # left lies between one by both rests, the other way round. A high_lower of 0 stands for no end.
    while (whole + 1) * high_lower >= high_upper:
        row.append(whole)
        low_rest = low_upper - whole * low_lower
        high_rest = high_upper - whole * high_lower
        high_upper = low_lower
        low_upper = high_lower
        low_lower = high_rest
        high_lower = low_rest
        whole = low_upper // low_lower
    row.append(whole + 1)
    return row


def least_pair(n):
    """The least x and y above 0 with x x - n y y = 1 or -1; n no square number."""
    # The fraction of the terms up to the ring's last one, without it, is x over y.
    parts = ring_terms(0, 1, n)
    return terms_fraction(parts[0] + parts[1][:-1])


def pair_apart(pair, n):
    """x x - n y y, of a pair x and y."""
    return pair[0] * pair[0] - n * pair[1] * pair[1]


def pair_product(first, second, n):
    """The x and y of x + y times n's square root, which is the product of two such."""
    x = first[0] * second[0] + n * first[1] * second[1]
    y = first[0] * second[1] + first[1] * second[0]
    return [x, y]
