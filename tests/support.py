"""What several tests use: another way to the same answers, and rows that tell when they are changed."""

import contextlib
import io
import itertools
from decimal import Decimal, localcontext

SMALLEST = -2147483648
GREATEST = 2147483647

# A number that isn't 0 is here a whole algebraic number of degree 8 at most. Its conjugates are all
# below 2 * 10^8, and their product is at least 1: so it is at least (2 * 10^8)^-7 away from 0, and
# what is nearer than this is 0.
NEAREST = Decimal(10) ** -60
DIGITS = 150


def value_of(parts, roots):
    """Evaluate the parts by summing up each part times its own product of roots."""
    value = Decimal(0)
    for place, part in enumerate(parts):
        term = Decimal(part)
        for j, root in enumerate(roots):
            if place >> j & 1:
                term *= root
        value += term
    return value


def expected_side(k, d, x):
    """Give the answer of sign for arguments that aren't refused by -2, by many decimal digits."""
    with localcontext() as context:
        context.prec = DIGITS
        roots = []
        for j in range(k):
            radicand = value_of(d[2 ** j - 1:2 ** (j + 1) - 1], roots)
            if radicand < NEAREST:
                return [-3]
            roots.append(radicand.sqrt())
        value = value_of(x, roots)
        if abs(value) < NEAREST:
            return [1]
        return [2] if value > 0 else [0]


def square_by_hand(p, q, s):
    """Give the square of a + b r + c t + e r t, where the roots r and t are those of p and q."""
    a, b, c, e = s
    return [
        a * a + p * b * b + q * c * c + p * q * e * e,
        2 * (a * b + q * c * e),
        2 * (a * c + p * b * e),
        2 * (a * e + b * c),
    ]


def negated(x):
    return [-part for part in x]


def whole_numbers(seed):
    """Walk without end through numbers from 0 to 2^31 - 1 that look mixed, the same ones each time."""
    state = seed
    while True:
        state = (state * 6364136223846793005 + 1442695040888963407) % 2 ** 64
        yield state >> 33


def mixed_row(numbers, length, farthest):
    return [number % (2 * farthest + 1) - farthest for number in itertools.islice(numbers, length)]


def mixed_radicands(numbers, k, farthest):
    """Give radicands the first parts of which are mostly above 0, so that many of them have roots."""
    row = mixed_row(numbers, 2 ** k - 1, farthest)
    for j in range(k):
        if next(numbers) % 8 > 0:
            row[2 ** j - 1] = abs(row[2 ** j - 1])
    return row


def printed_by(call):
    """Give what the call writes to either stream."""
    out = io.StringIO()
    with contextlib.redirect_stdout(out), contextlib.redirect_stderr(out):
        call()
    return out.getvalue()


def refuse_change(self, *args, **kwargs):
    raise AssertionError("a row that was handed in is changed")


class Untouchable(list):
    """A list that can't be changed, not for a while either."""

    append = clear = extend = insert = pop = remove = reverse = sort = refuse_change
    __setitem__ = __delitem__ = __iadd__ = __imul__ = refuse_change


class Manners:
    """What holds of each function, whatever it answers: for a test case that names the function and calls of it.

    The first argument of each call is a whole number, the others are lists.
    """

    function = None
    CALLS = ()

    def length_of_answer(self, call):
        return 1

    def test_the_answer_is_a_list_of_so_many_whole_numbers(self):
        for call in self.CALLS:
            answer = self.function(*call)
            self.assertIs(type(answer), list)
            self.assertEqual([type(number) for number in answer], [int] * self.length_of_answer(call))

    def test_the_answer_is_new_each_time(self):
        for call in self.CALLS:
            first = self.function(*call)
            kept = list(first)
            first.append(9)
            first[0] = 9
            self.assertEqual(self.function(*call), kept)

    def test_nothing_is_kept_between_calls(self):
        there = [self.function(*call) for call in self.CALLS]
        back = [self.function(*call) for call in reversed(self.CALLS)]
        self.assertEqual(there, back[::-1])

    def test_what_is_handed_in_is_not_changed(self):
        for k, *rows in self.CALLS:
            plain = [list(row) for row in rows]
            answer = self.function(k, *plain)
            self.assertEqual(plain, rows)
            self.assertEqual(self.function(k, *[Untouchable(row) for row in rows]), answer)

    def test_nothing_is_printed(self):
        for call in self.CALLS:
            self.assertEqual(printed_by(lambda: self.function(*call)), "")
