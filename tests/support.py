"""What several tests use: another way to the same answers, and rows that tell when they are changed."""

import contextlib
import io
import itertools
import math
import sys
from decimal import Decimal, localcontext
from fractions import Fraction

SMALLEST = -2147483648
GREATEST = 2147483647

# Numbers of roots that are refused with whatever radicands and number stand beside them.
WRONG_NUMBERS_OF_ROOTS = (-1, -2, -3, 4, 5, 20, 31, 32, 64, 1000000, SMALLEST, GREATEST)
RADICANDS_AND_NUMBERS = (
    ([], []), ([], [1]), ([2], [1, 1]), ([1] * 3, [1] * 4), ([1] * 7, [1] * 8), ([1] * 15, [1] * 16),
    ([1] * 20, [1] * 20),
)

# A number that isn't 0 is here a whole algebraic number of degree 8 at most. Its conjugates are all
# below 2 * 10^8, and their product is at least 1: so it is at least (2 * 10^8)^-7 away from 0, and
# what is nearer than this is 0.
NEAREST = Decimal(10) ** -60
DIGITS = 150


def value_of(parts, roots):
    """Evaluate the parts by summing up each part times its own product of roots."""
    value = Decimal(0)
    for place, part in enumerate(parts):
        term = Decimal(part)
        for j, root in enumerate(roots):
            if place >> j & 1:
                term *= root
        value += term
    return value


def expected_side(k, d, x):
    """Give the answer of sign for arguments that aren't refused by -2, by many decimal digits."""
    with localcontext() as context:
        context.prec = DIGITS
        roots = []
        for j in range(k):
            radicand = value_of(d[2 ** j - 1:2 ** (j + 1) - 1], roots)
            if radicand < NEAREST:
                return [-3]
            roots.append(radicand.sqrt())
        value = value_of(x, roots)
        if abs(value) < NEAREST:
            return [1]
        return [2] if value > 0 else [0]


def powers_at(k, place):
    """Give how often each of the k roots stands in the product that the part at this place goes with."""
    return tuple(place >> j & 1 for j in range(k))


def less_two(powers, j):
    """Give the powers with the root j two times fewer."""
    return tuple(power - 2 if i == j else power for i, power in enumerate(powers))


def added(powers, others):
    return tuple(p + q for p, q in zip(powers, others))


def expected_product(k, d, x, y):
    """Multiply out as polynomials in the roots, and only then put radicands for the squares of roots.

    The last root goes first: its radicand brings in the roots ahead of it, never itself.
    """
    terms = {}
    for p, q in itertools.product(range(2 ** k), repeat=2):
        powers = added(powers_at(k, p), powers_at(k, q))
        terms[powers] = terms.get(powers, 0) + x[p] * y[q]
    for j in reversed(range(k)):
        radicand = d[2 ** j - 1:2 ** (j + 1) - 1]
        while any(powers[j] > 1 for powers in terms):
            replaced = {}
            for powers, factor in terms.items():
                if powers[j] > 1:
                    for place, part in enumerate(radicand):
                        key = added(less_two(powers, j), powers_at(k, place))
                        replaced[key] = replaced.get(key, 0) + factor * part
                else:
                    replaced[powers] = replaced.get(powers, 0) + factor
            terms = replaced
    return [0] + [terms.get(powers_at(k, place), 0) for place in range(2 ** k)]


def complex_product(y, z):
    return (y[0] * z[0] - y[1] * z[1], y[0] * z[1] + y[1] * z[0])


def complex_quotient(y, z):
    size = z[0] * z[0] + z[1] * z[1]
    return complex_product(y, (z[0] / size, -z[1] / size))


def complex_root(z):
    """Give one of the two numbers whose square is z."""
    size = (z[0] * z[0] + z[1] * z[1]).sqrt()
    if size == 0:
        return z
    # What is taken the root of is the sum of two that are not below 0, so that no digits are lost.
    greater = ((size + abs(z[0])) / 2).sqrt()
    other = z[1] / (2 * greater)
    return (greater, other) if z[0] >= 0 else (other, greater)


def product_of_roots(roots, place):
    result = (Decimal(1), Decimal(0))
    for j, root in enumerate(roots):
        if place >> j & 1:
            result = complex_product(result, root)
    return result


def complex_value(parts, roots):
    terms = [complex_product((Decimal(part), Decimal(0)), product_of_roots(roots, place))
             for place, part in enumerate(parts)]
    return (sum(term[0] for term in terms), sum(term[1] for term in terms))


def conjugate_roots(k, d):
    """Give all ways to choose, one root after another, one of the two roots of its radicand."""
    rows = [[]]
    for j in range(k):
        longer = []
        for roots in rows:
            root = complex_root(complex_value(d[2 ** j - 1:2 ** (j + 1) - 1], roots))
            longer.append(roots + [root])
            longer.append(roots + [(-root[0], -root[1])])
        rows = longer
    return rows


def root_by_conjugates(k, d, x):
    """Give the whole parts of a number whose square is x, and what they are to be divided by; or None.

    There are 0 to 2 roots, none of which may be a number with the roots ahead of it. Then the number has
    2^k conjugates, each of them one of the two roots of the conjugate of x. A part of it is the mean of the
    conjugates of the number divided by the product of roots that the part goes with. As the number is a whole
    algebraic one, such a sum is whole once it is multiplied by the radicands and the radicands' conjugates.
    So there are finitely many choices, and for each the parts are known from enough digits of them.
    """
    under = 2 ** k
    if k > 0:
        under *= d[0]
    if k > 1:
        under *= abs(d[1] * d[1] - d[0] * d[2] * d[2])
    wanted = [0] + [under * under * part for part in x]
    with localcontext() as context:
        context.prec = DIGITS
        rows = conjugate_roots(k, d)
        values = [complex_root(complex_value(x, roots)) for roots in rows]
        # shares[i][place] is what the i-th conjugate adds to the part; only what is real stays in the sum.
        shares = [[complex_quotient(value, product_of_roots(roots, place))[0] * under / 2 ** k
                   for place in range(2 ** k)] for value, roots in zip(values, rows)]
        for sides in itertools.product((1, -1), repeat=2 ** k - 1):
            parts = [int(sum(side * share for side, share in zip((1,) + sides, column)).to_integral_value())
                     for column in zip(*shares)]
            if expected_product(k, d, parts, parts) == wanted:
                return parts, under
    return None


def expected_square(k, d, x):
    """Give the answer of square for arguments that aren't refused, by conjugates."""
    if k > 0 and math.isqrt(d[0]) ** 2 == d[0]:
        root = math.isqrt(d[0])
        rest = [d[1] + root * d[2]] if k > 1 else []
        return expected_square(k - 1, rest, [a + root * b for a, b in zip(x[::2], x[1::2])])
    if k > 1:
        found = root_by_conjugates(1, d[:1], d[1:])
        if found is not None:
            parts, under = found
            if expected_side(1, d[:1], parts) == [0]:
                parts = negated(parts)
            beside = expected_product(1, d[:1], x[2:], parts)[1:]
            return expected_square(1, d[:1], [under * (under * a + b) for a, b in zip(x[:2], beside)])
    return [0] if root_by_conjugates(k, d, x) is None else [1]


def square_by_hand(p, q, s):
    """Give the square of a + b r + c t + e r t, where the roots r and t are those of p and q."""
    a, b, c, e = s
    return [
        a * a + p * b * b + q * c * c + p * q * e * e,
        2 * (a * b + q * c * e),
        2 * (a * c + p * b * e),
        2 * (a * e + b * c),
    ]


def multiplied(p, q):
    """Multiply two polynomials out; the number by itself stands first."""
    result = [0] * (len(p) + len(q) - 1)
    for (i, left), (j, right) in itertools.product(enumerate(p), enumerate(q)):
        result[i + j] += left * right
    return result


def polynomial_value(p, x):
    return sum(part * x ** place for place, part in enumerate(p))


def slope(p):
    return [place * part for place, part in enumerate(p)][1:]


def divided_out(p, q):
    """Give how often q goes into p, and what is left, both as fractions; the last number of q isn't 0."""
    rest = [Fraction(part) for part in p]
    often = []
    while len(rest) >= len(q):
        factor = rest[-1] / q[-1]
        often.insert(0, factor)
        for place, part in enumerate(q):
            rest[len(rest) - len(q) + place] -= factor * part
        rest.pop()
    while rest and rest[-1] == 0:
        rest.pop()
    return often, rest


def in_whole_numbers(p):
    """Give the fractions p all multiplied by one number, so that they are whole and have no divisor in common."""
    under = math.lcm(*(Fraction(part).denominator for part in p))
    whole = [int(part * under) for part in p]
    return [part // math.gcd(*whole) for part in whole]


def without_repeats(p):
    """Give a polynomial that is 0 where p is, and each time only once."""
    common, other = p, slope(p)
    while other:
        common, other = other, divided_out(common, other)[1]
    return in_whole_numbers(divided_out(p, common)[0])


def count_of_places(p):
    """Count the real places where p is 0, each once, after Sturm."""
    rows = [p, slope(p)]
    while rows[-1]:
        rows.append([-part for part in divided_out(rows[-2], rows[-1])[1]])
    rows.pop()
    far_above = [row[-1] > 0 for row in rows]
    far_below = [(row[-1] > 0) == (len(row) % 2 == 1) for row in rows]
    return changes(far_below) - changes(far_above)


def changes(row):
    return sum(left != right for left, right in zip(row, row[1:]))


def complex_places(p):
    """Come near to all the places where p is 0, after Durand and Kerner; no two of them may be one."""
    size = 1 + max(abs(part) for part in p) / abs(p[-1])
    places = [size * (0.4 + 0.9j) ** power for power in range(1, len(p))]
    for turn in range(1000):
        before = list(places)
        for i, place in enumerate(places):
            others = math.prod((place - other for other in places[:i] + places[i + 1:]), start=complex(p[-1]))
            places[i] = place - polynomial_value(p, place) / others
        if max(abs(place - old) for place, old in zip(places, before)) < 1e-14 * size:
            break
    return places


def factors_of(p):
    """Take p, which is 0 nowhere twice, apart as far as whole numbers go.

    The places where a factor is 0 are some of those where p is. Multiplied by the last number of p, a factor that
    begins with 1 has whole numbers: near enough to them they are known, and whether it is one is tried exactly.
    """
    for size in range(1, (len(p) - 1) // 2 + 1):
        for chosen in itertools.combinations(complex_places(p), size):
            factor = [complex(p[-1])]
            for place in chosen:
                factor = multiplied(factor, [-place, 1])
            whole = [round(part.real) for part in factor]
            often, rest = divided_out(p, whole)
            if rest == []:
                return factors_of(in_whole_numbers(whole)) + factors_of(in_whole_numbers(often))
    return [p]


PRIMES = [n for n in range(2, 300) if all(n % divisor for divisor in range(2, n))]


def moves_three(p):
    """Tell whether some prime shows that the places where the quartic p is 0 can be swapped three in a ring.

    So it is where p, by remainders of the prime, has one place alone where it is 0, and that once: then three others
    come in a ring. Where there are such swaps, of every three primes, on the whole, one or two show them.
    """
    for prime in PRIMES:
        if p[-1] % prime > 0:
            places = [x for x in range(prime) if polynomial_value(p, x) % prime == 0]
            if len(places) == 1 and polynomial_value(slope(p), places[0]) % prime > 0:
                return True
    return False


def expected_root(p):
    """Give the answer of root for p that isn't refused, by its factors and by remainders of primes."""
    for factor in factors_of(without_repeats(p)):
        degree = len(factor) - 1
        if degree != 3 and count_of_places(factor) > 0 and not (degree == 4 and moves_three(factor)):
            return [1]
    return [0]


def unit(k, place, part=1):
    row = [0] * 2 ** k
    row[place] = part
    return row


def negated(x):
    return [-part for part in x]


def whole_numbers(seed):
    """Walk without end through numbers from 0 to 2^31 - 1 that look mixed, the same ones each time."""
    state = seed
    while True:
        state = (state * 6364136223846793005 + 1442695040888963407) % 2 ** 64
        yield state >> 33


def mixed_row(numbers, length, farthest):
    return [number % (2 * farthest + 1) - farthest for number in itertools.islice(numbers, length)]


def mixed_radicands(numbers, k, farthest):
    """Give radicands the first parts of which are mostly above 0, so that many of them have roots."""
    row = mixed_row(numbers, 2 ** k - 1, farthest)
    for j in range(k):
        if next(numbers) % 8 > 0:
            row[2 ** j - 1] = abs(row[2 ** j - 1])
    return row


def check_steps(most, call):
    """Make the call, and fail as soon as it has gone through more lines of the program than that."""
    steps = 0

    def count(frame, event, argument):
        nonlocal steps
        steps += event == "line"
        if steps > most:
            raise AssertionError(f"more than {most} steps")
        return count

    tracer = sys.gettrace()
    sys.settrace(count)
    try:
        return call()
    finally:
        sys.settrace(tracer)


def printed_by(call):
    """Give what the call writes to either stream."""
    out = io.StringIO()
    with contextlib.redirect_stdout(out), contextlib.redirect_stderr(out):
        call()
    return out.getvalue()


def refuse_change(self, *args, **kwargs):
    raise AssertionError("a row that was handed in is changed")


class Untouchable(list):
    """A list that can't be changed, not for a while either."""

    append = clear = extend = insert = pop = remove = reverse = sort = refuse_change
    __setitem__ = __delitem__ = __iadd__ = __imul__ = refuse_change


def with_lists_as(kind, arguments):
    """Give the arguments with each list copied into one of that kind."""
    return [kind(argument) if isinstance(argument, list) else argument for argument in arguments]


class Manners:
    """What holds of each function, whatever it answers: for a test case that names the function and calls of it."""

    function = None
    CALLS = ()

    def length_of_answer(self, call):
        return 1

    def test_the_answer_is_a_list_of_so_many_whole_numbers(self):
        for call in self.CALLS:
            answer = self.function(*call)
            self.assertIs(type(answer), list)
            self.assertEqual([type(number) for number in answer], [int] * self.length_of_answer(call))

    def test_the_answer_is_new_each_time(self):
        for call in self.CALLS:
            first = self.function(*call)
            kept = list(first)
            first.append(9)
            first[0] = 9
            self.assertEqual(self.function(*call), kept)

    def test_nothing_is_kept_between_calls(self):
        there = [self.function(*call) for call in self.CALLS]
        back = [self.function(*call) for call in reversed(self.CALLS)]
        self.assertEqual(there, back[::-1])

    def test_what_is_handed_in_is_not_changed(self):
        for call in self.CALLS:
            plain = with_lists_as(list, call)
            answer = self.function(*plain)
            self.assertEqual(plain, list(call))
            self.assertEqual(self.function(*with_lists_as(Untouchable, call)), answer)

    def test_nothing_is_printed(self):
        for call in self.CALLS:
            self.assertEqual(printed_by(lambda: self.function(*call)), "")
