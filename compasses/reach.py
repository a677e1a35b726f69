"""Numbers made of whole ones by square roots of square roots, worked with exactly.

A number with j roots is a list of 2^j whole parts: a number a with j - 1 roots,
then a number b with j - 1 roots, and it is a + b r, where r is the j-th root.
d has the parts of all radicands, one behind another.
"""

NO_REFUSAL = 0
NOT_ALLOWED = -2
NOT_ABOVE_ZERO = -3

# What times answers ahead of the parts.
MULTIPLIED = 0

MOST_ROOTS = 3
MOST_ROOTS_OF_SQUARE = 2
FARTHEST_IN_RADICANDS = 100
FARTHEST_IN_NUMBERS = 1000
MOST_CORNERS = 1000000000

# The primes that are a power of 2 and 1 more. If there is another, it lies far beyond MOST_CORNERS.
FERMAT_PRIMES = (3, 5, 17, 257, 65537)

NUMBERS_OF_CUBIC = 4
NUMBERS_OF_QUARTIC = 5

# At z so far from 0, a resolvent isn't 0 any more, as z z z outweighs what is added: with 2237 for m, the numbers
# beside z z, beside z and by itself are no farther from 0 than m, m m and m m m, and z is no nearer than 2 m.
FAR_ENOUGH = 4474


def sign(k, d, x):
    """Answer [2] if x is above 0, [1] if it is 0, [0] if it is below; or a refusal."""
    refusal = refusal_of(k, d, [x])
    if refusal != NO_REFUSAL:
        return [refusal]
    return [side_of_zero(d, x) + 1]


def compare(k, d, x, y):
    """Answer [2] if x is greater than y, [1] if they are the same, [0] if y is greater; or a refusal."""
    # x and y are looked at as they are: what is between them may go beyond what is allowed of each.
    refusal = refusal_of(k, d, [x, y])
    if refusal != NO_REFUSAL:
        return [refusal]
    return [side_of_zero(d, difference(x, y)) + 1]


def times(k, d, x, y):
    """Answer [0, then the parts of x times y as multiplying out gives them]; or a refusal."""
    # Multiplying out asks of a root only what its square is, so the radicands needn't be above 0.
    if not is_allowed(k, d, [x, y]):
        return [NOT_ALLOWED]
    return [MULTIPLIED] + product(d, x, y)


def square(k, d, x):
    """Answer [1] if x is the square of a number with these roots and fractions for parts, else [0]; or a refusal."""
    if k > MOST_ROOTS_OF_SQUARE:
        return [NOT_ALLOWED]
    refusal = refusal_of(k, d, [x])
    if refusal != NO_REFUSAL:
        return [refusal]
    if root_of(d, x) is None:
        return [0]
    return [1]


def polygon(n):
    """Answer [1] if a regular polygon of n corners can be drawn, else [0]; or a refusal."""
    if n < 1 or n > MOST_CORNERS:
        return [NOT_ALLOWED]
    # After Gauss and Wantzel: n may have each of these primes once, 2 however often, and nothing else.
    rest = n
    for prime in FERMAT_PRIMES:
        if rest % prime == 0:
            rest = rest // prime
    while rest % 2 == 0:
        rest = rest // 2
    if rest > 1:
        return [0]
    return [1]


def root(p):
    """Answer [1] if p(0) + p(1) x + p(2) x x + .. is 0 for some x that is reached, else [0]; or a refusal."""
    if not is_cubic_or_quartic(p):
        return [NOT_ALLOWED]
    if is_zero_at_reached(p):
        return [1]
    return [0]


def refusal_of(k, d, numbers):
    """Give the refusal of k, d and the numbers, where all radicands have to be above 0."""
    if not is_allowed(k, d, numbers):
        return NOT_ALLOWED
    if not has_roots(k, d):
        return NOT_ABOVE_ZERO
    return NO_REFUSAL


def is_allowed(k, d, numbers):
    """Tell whether k, d and the numbers have the lengths and ranges that are asked for."""
    # k goes first: the lengths can be told only of a k in its range.
    if k < 0 or k > MOST_ROOTS:
        return False
    length = 1 << k
    if not is_row(d, length - 1, FARTHEST_IN_RADICANDS):
        return False
    return all([is_row(number, length, FARTHEST_IN_NUMBERS) for number in numbers])


def is_row(row, length, farthest):
    """Tell whether the row has that length, and nothing farther from 0 than it may be."""
    return len(row) == length and all([abs(part) <= farthest for part in row])


def has_roots(k, d):
    """Tell whether all k radicands are above 0."""
    # In their order: the side of a radicand can be told only when the roots ahead of it are there.
    for j in range(k):
        if side_of_zero(d, radicand(d, 1 << j)) <= 0:
            return False
    return True


def radicand(d, length):
    """Give the radicand that has this many parts."""
    # The radicands ahead of it have 1 + 2 + 4 + .. parts together, which is one fewer.
    return d[length - 1:2 * length - 1]


def side_of_zero(d, x):
    """Answer 1 if x is above 0, 0 if it is 0, -1 if it is below."""
    if len(x) == 1:
        return side_of_whole(x[0])
    half = len(x) // 2
    a = x[:half]
    b = x[half:]
    side_of_a = side_of_zero(d, a)
    side_of_b = side_of_zero(d, b)
    if side_of_a == 0:
        return side_of_b
    if side_of_b == 0 or side_of_a == side_of_b:
        return side_of_a
    # a and b r pull apart, so the greater of their squares decides; that needs one root fewer.
    return side_of_a * side_of_zero(d, norm(d, x))


def side_of_whole(n):
    """Answer 1 if the whole number n is above 0, 0 if it is 0, -1 if it is below."""
    if n > 0:
        return 1
    if n < 0:
        return -1
    return 0


def norm(d, x):
    """Give the parts of a + b r times a - b r, where x is a + b r: they have one root fewer."""
    half = len(x) // 2
    a = x[:half]
    b = x[half:]
    return difference(product(d, a, a), product(d, product(d, b, b), radicand(d, half)))


def product(d, x, y):
    """Give the parts of x times y, multiplied out."""
    if len(x) == 1:
        return [x[0] * y[0]]
    half = len(x) // 2
    a = x[:half]
    b = x[half:]
    c = y[:half]
    e = y[half:]
    r_r = radicand(d, half)
    plain = total(product(d, a, c), product(d, product(d, b, e), r_r))
    beside_root = total(product(d, a, e), product(d, b, c))
    return plain + beside_root


def total(x, y):
    """Give the parts of x and y together."""
    return [p + q for p, q in zip(x, y)]


def difference(x, y):
    """Give the parts of x less y."""
    return [p - q for p, q in zip(x, y)]


def scaled(x, n):
    """Give the parts of x times the whole number n."""
    return [part * n for part in x]


def with_one_root_more(x):
    """Give the parts that tell x as a number that has a further root, and nothing beside it."""
    return x + [0] * len(x)


def root_of(d, x):
    """Give a number with the roots of x whose square is x, or None if there is none.

    It is a pair of numbers, both with whole parts: the first divided by the second.
    """
    if len(x) == 1:
        return root_of_whole(x[0])
    half = len(x) // 2
    r = root_of(d, radicand(d, half))
    if r is not None:
        return root_where_r_is_known(d, x, r)
    if side_of_zero(d, x[half:]) == 0:
        return root_of_plain(d, x[:half])
    return root_of_mixed(d, x)


def root_of_whole(n):
    """Do what root_of does for a number with no root."""
    if n < 0:
        return None
    s = whole_part_of_root(n)
    if s * s != n:
        return None
    return ([s], [1])


def whole_part_of_root(n):
    """Give the greatest whole number whose square isn't above n, which isn't below 0."""
    # From above, each step comes nearer, and none goes below what is looked for.
    s = 1 << ((n.bit_length() + 1) // 2)
    while s * s > n:
        s = (s + n // s) // 2
    return s


def root_where_r_is_known(d, x, r):
    """Do what root_of does where the last root is also a number with the roots ahead of it: r, up to its side of 0."""
    half = len(x) // 2
    p = r[0]
    q = r[1]
    # A number and the same below 0 have one square, but the root is the one above 0.
    if side_of_zero(d, p) != side_of_zero(d, q):
        q = scaled(q, -1)
    # x is a + b p / q: times q q, it is a number with the roots ahead, and a square if x is.
    q_x = total(product(d, q, x[:half]), product(d, p, x[half:]))
    found = root_of(d, product(d, q, q_x))
    if found is None:
        return None
    return (with_one_root_more(found[0]), with_one_root_more(product(d, q, found[1])))


def root_of_plain(d, a):
    """Do what root_of does for a with a further root r, which no number with the roots ahead is, and 0 beside it."""
    found = root_of(d, a)
    if found is not None:
        return (with_one_root_more(found[0]), with_one_root_more(found[1]))
    # Else only v r is left, of which the square is v v r r: so a r r is the square of v r r.
    r_r = radicand(d, len(a))
    found = root_of(d, product(d, a, r_r))
    if found is None:
        return None
    return ([0] * len(a) + found[0], with_one_root_more(product(d, r_r, found[1])))


def root_of_mixed(d, x):
    """Do what root_of does for a + b r, where no number with the roots ahead is r, and b isn't 0."""
    # The square of u + v r is (u u + v v r r) + (2 u v) r. Where that is a + b r, a a - b b r r is the square
    # of n = u u - v v r r, and 2 u u is a + n. Of n only the square is known, so both n are tried.
    n = root_of(d, norm(d, x))
    if n is None:
        return None
    found = root_by_norm(d, x, n[0], n[1])
    if found is None:
        found = root_by_norm(d, x, scaled(n[0], -1), n[1])
    return found


def root_by_norm(d, x, p, q):
    """Do what root_of_mixed does, for n being p / q."""
    half = len(x) // 2
    a = x[:half]
    b = x[half:]
    # 2 u u is a + p / q: so 2 q (q a + p) is the square of 2 q u.
    found = root_of(d, scaled(product(d, q, total(product(d, q, a), p)), 2))
    if found is None:
        return None
    # With 2 q u = s / t: u is s / (2 q t), and v, being b / (2 u), is b q t / s.
    s = found[0]
    q_t = product(d, q, found[1])
    beside_root = scaled(product(d, b, product(d, q_t, q_t)), 2)
    return (product(d, s, s) + beside_root, with_one_root_more(scaled(product(d, q_t, s), 2)))


def is_cubic_or_quartic(p):
    """Tell whether p has the length and the range that are asked for, and its last number isn't 0."""
    if len(p) != NUMBERS_OF_CUBIC and len(p) != NUMBERS_OF_QUARTIC:
        return False
    return is_row(p, len(p), FARTHEST_IN_NUMBERS) and p[-1] != 0


def is_zero_at_reached(p):
    """Tell whether the cubic or quartic p is 0 at a number that is reached."""
    if fraction_where_zero(p) is not None:
        return True
    # What is reached has a degree of 1, 2, 4, 8, ..; where such a cubic is 0, the degree is 3.
    if len(p) == NUMBERS_OF_CUBIC:
        return False
    # By Galois: the swaps of the four places where p is 0, if they are 1, 2, 4 or 8 in number, leave some parting
    # of the places into two pairs as it is. Then the resolvent is 0 at a fraction; else no place is reached.
    z = fraction_where_zero(resolvent(p))
    if z is None:
        return False
    return is_zero_somewhere(p, z[0])


def fraction_where_zero(p):
    """Give a fraction where p is 0, as the pair of what is above and what is below the stroke; or None."""
    if p[0] == 0:
        return (0, 1)
    # In lowest terms, what is above divides the first number of p, and what is below the last one.
    numbers_above = divisors(p[0])
    for below in divisors(p[-1]):
        for above in numbers_above:
            if value_at(p, above, below) == 0:
                return (above, below)
            if value_at(p, -above, below) == 0:
                return (-above, below)
    return None


def divisors(n):
    """Give the whole numbers above 0 that divide n, which isn't 0, as far as they are needed."""
    return [t for t in range(1, min(abs(n), FAR_ENOUGH) + 1) if n % t == 0]


def value_at(p, above, below):
    """Give what p is at the fraction above / below, times a power of below, so that it is whole."""
    value = 0
    power = 1
    for part in reversed(p):
        value = value * above + part * power
        power = power * below
    return value


def resolvent(p):
    """Give the cubic that is 0 at p(4) (s t + u v), where s, t, u, v in any order are where the quartic p is 0."""
    return [
        4 * p[0] * p[2] * p[4] - p[0] * p[3] * p[3] - p[1] * p[1] * p[4],
        p[1] * p[3] - 4 * p[0] * p[4],
        -p[2],
        1,
    ]


def is_zero_somewhere(p, z):
    """Tell whether the quartic p, which is 0 at no fraction, is 0 at all, where its resolvent is 0 at the whole z."""
    a = p[4]
    b = p[3]
    # 4 a p is the square of 2 a x x + b x + z less m x x + 2 n x + w, where m w is n n as the resolvent is 0 at z.
    m = b * b - 4 * a * p[2] + 4 * a * z
    n = b * z - 2 * a * p[1]
    w = z * z - 4 * a * p[0]
    if m > 0:
        # What is taken off is a square too. With t for the root of m, 4 a p is two quadratics multiplied, which are
        # 2 a x x + (b + t) x + z + n / t and the same with -t; one is 0 somewhere if its discriminant isn't below 0.
        # Of the discriminants, times m, this is the greater.
        return side_of_zero([m], [m * (b * b + m - 8 * a * z), abs(8 * a * n - 2 * b * m)]) >= 0
    if m == 0 and w >= 0:
        # The same, with the root of w beside z.
        return side_of_zero([w], [b * b - 8 * a * z, abs(8 * a)]) >= 0
    # A square and something that isn't below 0: both are 0 together at a fraction at most.
    return False
