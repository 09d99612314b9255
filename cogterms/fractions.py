"""The calls about terms, rings and nearest fractions, answered one by one."""

TERMS = 0
VALUE = 1
ROOT = 2
RING = 3

# How many numbers a call takes up, its own number among them; value's row comes on top.
CALL_LENGTHS = {0: 3, 1: 2, 2: 2, 3: 4, 4: 4}

OUT_OF_BOUNDS = -1
NOT_FITTING = -3

MOST_FRACTION = 1000000
MOST_TERMS = 20
MOST_TERM = 1000
MOST_ROOT = 1000000
MOST_RING_PART = 100
MOST_RING_ROOT = 1000
MOST_BELOW = 300


def answers(calls):
    """For each call, in order, how many numbers it answers, then these."""
    told = []
    start = 0
    while start < len(calls):
        end = start + call_length(calls, start)
        answer = answer_call(calls[start:end])
        told.append(len(answer))
        told.extend(answer)
        start = end
    return told


def call_length(calls, start):
    """How many numbers the call that begins at start takes up."""
    length = CALL_LENGTHS[calls[start]]
    if calls[start] == VALUE:
        return length + calls[start + 1]
    return length


def answer_call(call):
    """What one call answers: a refusal alone, or all that is told."""
    if call[0] == TERMS:
        return answer_terms(call[1], call[2])
    if call[0] == VALUE:
        return answer_value(call[2:])
    if call[0] == ROOT:
        return answer_root(call[1])
    if call[0] == RING:
        return answer_ring(call[1], call[2], call[3])
    # A number without a length never gets here, so what is left is near.
    return answer_near(call[1], call[2], call[3])


def answer_terms(n, d):
    """How many terms n / d has, then these."""
    if d == 0 or d > MOST_FRACTION or abs(n) > MOST_FRACTION:
        return [OUT_OF_BOUNDS]
    row = fraction_terms(n, d)
    return [len(row)] + row


def answer_value(row):
    """0, then the upper and the lower number of the fraction with these terms."""
    if len(row) == 0 or len(row) > MOST_TERMS:
        return [OUT_OF_BOUNDS]
    if max(row) > MOST_TERM or min(row) < -MOST_TERM:
        return [OUT_OF_BOUNDS]
    if min(row[1:], default=1) < 1:
        return [NOT_FITTING]
    return [0] + terms_fraction(row)


def answer_root(n):
    """How many terms the ring of n's square root has, the term ahead of it, the ring."""
    if n == 0 or n > MOST_ROOT:
        return [OUT_OF_BOUNDS]
    if is_square(n):
        return [NOT_FITTING]
    parts = ring_terms(0, 1, n)
    return [len(parts[1])] + parts[0] + parts[1]


def answer_ring(p, q, n):
    """How many terms are ahead of the ring, these, how many are in it, these."""
    if q == 0 or abs(q) > MOST_RING_PART or abs(p) > MOST_RING_PART:
        return [OUT_OF_BOUNDS]
    if n == 0 or n > MOST_RING_ROOT:
        return [OUT_OF_BOUNDS]
    if is_square(n):
        return [NOT_FITTING]
    parts = ring_terms(p, q, n)
    return [len(parts[0])] + parts[0] + [len(parts[1])] + parts[1]


def answer_near(n, d, m):
    """0, then the fraction nearest to n / d with a number below from 1 to m."""
    if d == 0 or d > MOST_FRACTION or n < 0 or n > MOST_FRACTION:
        return [OUT_OF_BOUNDS]
    if m == 0 or m > MOST_BELOW:
        return [OUT_OF_BOUNDS]
    return [0] + nearest_fraction(n, d, m)


def fraction_terms(n, d):
    """The terms of n / d, d above 0."""
    row = []
    upper = n
    lower = d
    while lower > 0:
        row.append(upper // lower)
        rest = upper % lower
        upper = lower
        lower = rest
    return row


def terms_fraction(row):
    """The upper and the lower number of the fraction with these terms."""
    # 1 over 0 stands for what is behind the last term: one divided by it is nothing.
    upper = 1
    lower = 0
    for term in reversed(row):
        wider = term * upper + lower
        lower = upper
        upper = wider
    return [upper, lower]


def whole_root(n):
    """The greatest whole number whose square is not above n, n from 0 on."""
    low = 0
    high = n + 1
    while high - low > 1:
        middle = (low + high) // 2
        if middle * middle <= n:
            low = middle
        else:
            high = middle
    return low


def is_square(n):
    """Whether n, from 0 on, is a square number."""
    low = whole_root(n)
    return low * low == n


def ring_terms(p, q, n):
    """The terms of (p + the square root of n) / q ahead of the ring, and the ring; n no square number."""
    # What is left stays a fraction of this form, in whole numbers, only if the number
    # below divides the square less p's; made wider by q's size, it does.
    size = abs(q)
    square = n * size * size
    whole = whole_root(square)
    upper = p * size
    lower = q * size
    row = []
    places = {}
    # One square has one upper and lower for each number, so the first pair that
    # comes again is the first number that does: nothing shorter is a ring.
    while (upper, lower) not in places:
        places[(upper, lower)] = len(row)
        term = surd_floor(upper, lower, whole)
        row.append(term)
        upper = term * lower - upper
        lower = (square - upper * upper) // lower
    start = places[(upper, lower)]
    return (row[:start], row[start:])


def surd_floor(upper, lower, whole):
    """The greatest whole number not above (upper + a root) / lower, whole being that root's whole part."""
    # The root is never whole itself; divided by a number below 0, what bounds
    # it from above bounds the answer from below.
    if lower > 0:
        return (upper + whole) // lower
    return (upper + whole + 1) // lower


def nearest_fraction(n, d, m):
    """Above and below of the fraction nearest to n / d with a number below from 1 to m."""
    best_upper = n // d
    best_lower = 1
    best_apart = n % d
    # In this order the first of several as near is the one to tell, so only
    # what is nearer takes its place; it is in lowest terms for the same reason.
    for lower in range(1, m + 1):
        floor = n * lower // d
        for upper in (floor, floor + 1):
            apart = abs(n * lower - upper * d)
            if apart * best_lower < best_apart * lower:
                best_upper = upper
                best_lower = lower
                best_apart = apart
    return [best_upper, best_lower]
