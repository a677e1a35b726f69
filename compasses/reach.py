"""Numbers made of whole ones by square roots of square roots, worked with exactly.

A number with j roots is a list of 2^j whole parts: a number a with j - 1 roots,
then a number b with j - 1 roots, and it is a + b r, where r is the j-th root.
d has the parts of all radicands, one behind another.
"""

NO_REFUSAL = 0
NOT_ALLOWED = -2
NOT_ABOVE_ZERO = -3

# What times answers ahead of the parts.
MULTIPLIED = 0

MOST_ROOTS = 3
FARTHEST_IN_RADICANDS = 100
FARTHEST_IN_NUMBERS = 1000


def sign(k, d, x):
    """Answer [2] if x is above 0, [1] if it is 0, [0] if it is below; or a refusal."""
    refusal = refusal_of(k, d, [x])
    if refusal != NO_REFUSAL:
        return [refusal]
    return [side_of_zero(d, x) + 1]


def compare(k, d, x, y):
    """Answer [2] if x is greater than y, [1] if they are the same, [0] if y is greater; or a refusal."""
    # x and y are looked at as they are: what is between them may go beyond what is allowed of each.
    refusal = refusal_of(k, d, [x, y])
    if refusal != NO_REFUSAL:
        return [refusal]
    return [side_of_zero(d, difference(x, y)) + 1]


def times(k, d, x, y):
    """Answer [0, then the parts of x times y as multiplying out gives them]; or a refusal."""
    # Multiplying out asks of a root only what its square is, so the radicands needn't be above 0.
    if not is_allowed(k, d, [x, y]):
        return [NOT_ALLOWED]
    return [MULTIPLIED] + product(d, x, y)


def refusal_of(k, d, numbers):
    """Give the refusal of k, d and the numbers, where all radicands have to be above 0."""
    if not is_allowed(k, d, numbers):
        return NOT_ALLOWED
    if not has_roots(k, d):
        return NOT_ABOVE_ZERO
    return NO_REFUSAL


def is_allowed(k, d, numbers):
    """Tell whether k, d and the numbers have the lengths and ranges that are asked for."""
    # k goes first: the lengths can be told only of a k in its range.
    if k < 0 or k > MOST_ROOTS:
        return False
    length = 1 << k
    if not is_row(d, length - 1, FARTHEST_IN_RADICANDS):
        return False
    return all([is_row(number, length, FARTHEST_IN_NUMBERS) for number in numbers])


def is_row(row, length, farthest):
    """Tell whether the row has that length, and nothing farther from 0 than it may be."""
    return len(row) == length and all([abs(part) <= farthest for part in row])


def has_roots(k, d):
    """Tell whether all k radicands are above 0."""
    # In their order: the side of a radicand can be told only when the roots ahead of it are there.
    for j in range(k):
        if side_of_zero(d, radicand(d, 1 << j)) <= 0:
            return False
    return True


def radicand(d, length):
    """Give the radicand that has this many parts."""
    # The radicands ahead of it have 1 + 2 + 4 + .. parts together, which is one fewer.
    return d[length - 1:2 * length - 1]


def side_of_zero(d, x):
    """Answer 1 if x is above 0, 0 if it is 0, -1 if it is below."""
    if len(x) == 1:
        return side_of_whole(x[0])
    half = len(x) // 2
    a = x[:half]
    b = x[half:]
    side_of_a = side_of_zero(d, a)
    side_of_b = side_of_zero(d, b)
    if side_of_a == 0:
        return side_of_b
    if side_of_b == 0 or side_of_a == side_of_b:
        return side_of_a
    # a and b r pull apart, so the greater of their squares decides; that needs one root fewer.
    square_of_a = product(d, a, a)
    square_of_b_r = product(d, product(d, b, b), radicand(d, half))
    return side_of_a * side_of_zero(d, difference(square_of_a, square_of_b_r))


def side_of_whole(n):
    """Answer 1 if the whole number n is above 0, 0 if it is 0, -1 if it is below."""
    if n > 0:
        return 1
    if n < 0:
        return -1
    return 0


def product(d, x, y):
    """Give the parts of x times y, multiplied out."""
    if len(x) == 1:
        return [x[0] * y[0]]
    half = len(x) // 2
    a = x[:half]
    b = x[half:]
    c = y[:half]
    e = y[half:]
    r_r = radicand(d, half)
    plain = total(product(d, a, c), product(d, product(d, b, e), r_r))
    beside_root = total(product(d, a, e), product(d, b, c))
    return plain + beside_root


def total(x, y):
    """Give the parts of x and y together."""
    return [p + q for p, q in zip(x, y)]


def difference(x, y):
    """Give the parts of x less y."""
    return [p - q for p, q in zip(x, y)]
