import itertools
import math
import unittest

from compasses.reach import root
from tests.support import (
    GREATEST, SMALLEST, Manners, check_steps, count_of_places, expected_product, expected_root, expected_side,
    factors_of, mixed_row, multiplied, negated, whole_numbers, without_repeats,
)

REACHED = [1]
NOT_REACHED = [0]

FAR_OFF = (1001, -1001, 1024, -2000, 65536, 1000000000, SMALLEST, GREATEST)

# In remainders of 2 these are 0 nowhere, so that they can't be taken apart.
CUBICS_BY_TWO = ((1, 1, 0, 1), (1, 0, 1, 1))

# In remainders of 2 this can't be taken apart; in remainders of 3 it is x times a cubic that can't be taken apart: so
# three of the places where it is 0 can be swapped in a ring, and no square roots lead there. Only the remainders of 6
# matter for that.
QUARTIC_BY_SIX = (3, 5, 2, 0, 1)

# The places where these are 0 can be swapped in half of all ways, rings of three among them.
QUARTICS_WITH_TWELVE_SWAPS = (
    [1, -3, -7, 0, 1], [1, 0, -7, -3, 1], [3, -1, -9, -2, 1], [8, -3, -7, 2, 1], [9, -2, -7, 1, 1],
)


def is_within(p):
    return all(-1000 <= part <= 1000 for part in p)


def alike(p):
    """Give polynomials that are 0 at what is reached if p is: multiples of p, and those 0 at -x or 1 / x instead."""
    mirrored = [-part if place % 2 else part for place, part in enumerate(p)]
    rows = [p, mirrored]
    if p[0] != 0:
        rows += [p[::-1], mirrored[::-1]]
    greatest = 1000 // max(abs(part) for part in p)
    return [[factor * part for part in row] for row in rows for factor in sorted({1, -1, min(2, greatest), -greatest})]


def stretched(p, n):
    """Give the polynomial that is 0 at an n-th of where p is."""
    return [part * n ** place for place, part in enumerate(p)]


def shifted(p, u):
    """Give the polynomial that is 0 at u more than where p is."""
    result = [0]
    power = [1]
    for part in p:
        result = [left + part * right for left, right in itertools.zip_longest(result, power, fillvalue=0)]
        power = multiplied(power, [-u, 1])
    return result


def quartic_of(k, radicand, x):
    """Give the quartic that is 0 at the number x with two roots, where r is the root of k.

    With x = a + b s, it is (X - a) (X - a) - b b s s, times the same with -r in the place of r: for
    (X X + e X + g) + (f X + h) r, that is the square of the first less k times the square of the second.
    """
    a, b = x[:2], x[2:]
    twice = [-2 * part for part in a]
    b_b = expected_product(1, [k], b, b)[1:]
    plain = [left - right for left, right in zip(expected_product(1, [k], a, a)[1:],
                                                 expected_product(1, [k], b_b, radicand)[1:])]
    first = [plain[0], twice[0], 1]
    second = [plain[1], twice[1]]
    taken_off = [k * part for part in multiplied(second, second)] + [0, 0]
    return [left - right for left, right in zip(multiplied(first, first), taken_off)]


def discriminant(q):
    return q[1] * q[1] - 4 * q[0] * q[2]


def quadratics():
    return [[c, b, a] for c, b, a in itertools.product((-6, -2, -1, 0, 1, 3, 4), (-5, -1, 0, 2, 4), (1, 2, -3))]


class RootCase(unittest.TestCase):
    def check(self, answer, *polynomials):
        for p in polynomials:
            for row in alike(list(p)):
                if root(row) != answer:
                    self.fail(f"root({row}) is {root(row)}")

    def check_within(self, least, answer, polynomials):
        """Check those that aren't refused; there have to be some."""
        within = sorted({tuple(p) for p in polynomials if is_within(p)})
        self.assertGreaterEqual(len(within), least)
        self.check(answer, *within)

    def check_expected(self, p):
        answer = expected_root(p)
        if root(p) != answer:
            self.fail(f"root({p}) is {root(p)}")
        return answer[0]


class CubicsReached(RootCase):
    def test_at_a_whole_number(self):
        self.check(REACHED, [-1, 0, 0, 1], [1, 0, 0, 1], [-8, 0, 0, 1], [1000, 0, 0, 1], [-6, 11, -6, 1], [-2, 1, 0, 1])
        self.check(REACHED, [-1000, 1, -1000, 1], [-999, 998, 0, 1], [8, -7, -2, 1], [-997, 996, 0, 1])

    def test_at_a_fraction(self):
        self.check(REACHED, [-1, 0, 0, 8], [-27, 0, 0, 8], [-1, 1, -2, 2], [-3, 2, -3, 2], [27, 0, 0, 1000])
        self.check(REACHED, [-1, 1000, -1, 1000], [-999, 1000, -999, 1000], [-31, 30, -31, 30], [-991, 997, -991, 997])

    def test_at_zero(self):
        self.check(REACHED, [0, 1, 0, 1], [0, -2, 0, 1], [0, 1, 1, 1], [0, 7, -1000, 3], [0, 1000, 999, 1000])
        self.check(REACHED, [0, 0, 1, 1], [0, 0, -5, 2], [0, 0, 0, 1], [0, 0, 0, -1000])

    def test_made_of_a_fraction_and_a_quadratic(self):
        for above, below in itertools.product(range(-6, 7), range(1, 7)):
            self.check_within(1, REACHED, [multiplied([-above, below], q) for q in ([1, 0, 1], [-2, 0, 1], [5, -3, 7])])

    def test_made_of_three_fractions(self):
        factors = [[1, 1], [-1, 2], [0, 1], [5, 3], [-7, 2]]
        for p, q, s in itertools.combinations_with_replacement(factors, 3):
            self.check(REACHED, multiplied(multiplied(p, q), s))

    def test_at_fractions_with_great_parts(self):
        numbers = whole_numbers(41)
        made = []
        for turn in range(3000):
            linear = mixed_row(numbers, 2, 100)
            quadratic = mixed_row(numbers, 3, 10)
            if linear[1] != 0 and quadratic[2] != 0:
                made.append(multiplied(linear, quadratic))
        self.check_within(200, REACHED, made)


class CubicsNotReached(RootCase):
    def test_with_one_place(self):
        for p in ([-2, 0, 0, 1], [-3, 0, 0, 1], [1, 1, 0, 1], [-1, -1, 0, 1], [-1, 1, 1, 1], [-999, 0, 0, 1],
                  [1, 2, 3, 4], [2, 0, 0, 27], [-4, 0, 0, 1], [-1, 0, 0, 2], [-1000, 0, 0, 999], [1000, 999, 1, 1000]):
            self.assertEqual(count_of_places(p), 1)
            self.check(NOT_REACHED, p)

    def test_with_three_places(self):
        # Also: the third part of an angle of 60 degrees, and the polygons of 7 and 9 corners.
        for p in ([-1, -6, 0, 8], [1, -3, 0, 1], [-1, -2, 1, 1], [1, -4, 0, 1], [3, -9, 0, 1], [2, -6, 0, 1],
                  [-7, -21, 0, 3], [1, -1000, 0, 1], [-1, -4, 4, 8], [331, -1000, 2, 1]):
            self.assertEqual(count_of_places(p), 3)
            self.check(NOT_REACHED, p)

    def test_third_parts_of_angles(self):
        # Where the cosine of an angle is a / b, 4 x x x - 3 x is a / b at that of its third part. For a fraction x that
        # has never b from 2 to 7; and b is 27 for thirds alone, which give 22 and 23 for a, above 0 or below.
        for below in range(2, 8):
            for above in range(1, below):
                if math.gcd(above, below) == 1:
                    self.check(NOT_REACHED, [-above, -3 * below, 0, 4 * below])
        self.check(REACHED, [-23, -81, 0, 108], [-22, -81, 0, 108], [0, -3, 0, 4], [-1, -3, 0, 4])
        self.check(NOT_REACHED, [-20, -81, 0, 108], [-25, -81, 0, 108], [-26, -81, 0, 108])

    def test_third_roots(self):
        thirds = {n ** 3: n for n in range(11)}
        for n in range(1, 1001):
            self.assertEqual(root([-n, 0, 0, 1]), REACHED if n in thirds else NOT_REACHED, n)
            self.assertEqual(root([343, 0, 0, n]), REACHED if n in thirds else NOT_REACHED, n)

    def test_all_numbers_but_the_last_divisible_by_a_prime(self):
        # After Eisenstein: where the first isn't by its square, the cubic can't be taken apart.
        for prime, (c, b, a, last) in itertools.product((2, 3, 5, 11), itertools.product(
                (1, -1, 13), (0, 1, -3), (0, 2, -7), (1, -7, 13))):
            if last % prime > 0 and c % prime > 0:
                self.check(NOT_REACHED, [prime * c, prime * b, prime * a, last])

    def test_of_none_of_the_remainders_of_two(self):
        numbers = whole_numbers(42)
        for turn in range(400):
            farthest = (3, 20, 499)[turn % 3]
            p = [part + 2 * more for part, more in zip(CUBICS_BY_TWO[turn % 2], mixed_row(numbers, 4, farthest))]
            self.check(NOT_REACHED, p)


class QuarticsThatAreZeroNowhere(RootCase):
    def test_by_hand(self):
        self.check(NOT_REACHED, [1, 0, 0, 0, 1], [1, 0, 1, 0, 1], [2, 0, 0, 0, 1], [4, 0, 0, 0, 1], [1, 1, 1, 1, 1])
        self.check(NOT_REACHED, [1, 0, -1, 0, 1], [2, 0, 3, 0, 1], [1, 0, 2, 0, 1], [9, 0, 6, 0, 1], [5, -4, 3, -2, 1])
        self.check(NOT_REACHED, [1, -1, 1, -1, 1], [1, 2, 3, 2, 1], [4, 4, 5, 2, 1], [2, -2, 3, -2, 1], [1, 1, 0, 0, 1])
        self.check(NOT_REACHED, [1000, 0, 0, 0, 1], [1000, 1000, 1000, 1000, 1000], [1000, 1, 0, 1, 1000])

    def test_but_for_a_little(self):
        # At the root of 2, or of 10, they come down to 1 only; those below touch 0, or go a little beyond.
        self.check(NOT_REACHED, [5, 0, -4, 0, 1], [401, 0, -400, 0, 100], [101, 0, -20, 0, 1])
        self.check(REACHED, [4, 0, -4, 0, 1], [3, 0, -4, 0, 1], [400, 0, -400, 0, 100], [399, 0, -400, 0, 100])
        self.check(REACHED, [100, 0, -20, 0, 1], [99, 0, -20, 0, 1])

    def test_sums_of_squares_and_a_number_above_zero(self):
        made = []
        for c, b, a, f, e, more in itertools.product((-3, 0, 2), (-1, 0, 2), (1, 3), (0, 1), (0, 2, -3), (1, 2, 7)):
            squares = zip(multiplied([c, b, a], [c, b, a]), multiplied([f, e], [f, e]) + [0, 0])
            p = [left + right for left, right in squares]
            made.append([p[0] + more] + p[1:])
        self.check_within(300, NOT_REACHED, made)

    def test_numbers_with_roots_of_numbers_below_zero(self):
        # Below 0 are k or, whichever root of k is taken, the radicand: so at no real number.
        made = [quartic_of(k, radicand, x) for k, radicand in ((2, [-2, 1]), (3, [-5, 2]), (5, [-3, 0]))
                for x in itertools.product((-1, 0, 3), (0, 1), (1, -2), (0, 1))]
        made += [quartic_of(k, radicand, x) for k, radicand in ((-1, [1, 1]), (-2, [3, 1]), (-3, [0, 1]))
                 for x in itertools.product((-1, 0, 3), (0, 0), (1, -2), (0, 1))]
        self.check_within(60, NOT_REACHED, [p for p in made if count_of_places(p) == 0])


class QuarticsAtFractions(RootCase):
    def test_by_hand(self):
        self.check(REACHED, [-1, 0, 0, 0, 1], [-16, 0, 0, 0, 81], [24, -50, 35, -10, 1], [-2, 1, 0, 0, 1])
        self.check(REACHED, [-1000, 999, 0, 0, 1], [-999, 1000, 0, 0, -1], [-625, 0, 0, 0, 16], [-625, 0, 0, 0, 256])

    def test_at_zero(self):
        self.check(REACHED, [0, 1, 0, 0, 1], [0, 2, 0, 0, 1], [0, 0, 1, 0, 1], [0, 0, 0, 1, 1], [0, 0, 0, 0, 1])
        self.check(REACHED, [0, -2, 0, 0, 1], [0, 1, 1, 0, 1], [0, 1000, -1000, 1000, -1000], [0, 0, 2, 3, 4])

    def test_made_of_a_fraction_and_a_cubic(self):
        # The first three cubics are 0 at no number that is reached.
        cubics = ([-2, 0, 0, 1], [1, 1, 0, 1], [1, -3, 0, 1], [1, 1, 1, 1], [0, 0, 0, 1], [5, 7, -3, 2])
        for above, below in itertools.product(range(-7, 8), range(1, 8)):
            if math.gcd(above, below) == 1:
                self.check(REACHED, *(multiplied([-above, below], cubic) for cubic in cubics))

    def test_at_fractions_with_great_parts(self):
        numbers = whole_numbers(43)
        made = []
        for turn in range(3000):
            linear = mixed_row(numbers, 2, 60)
            cubic = mixed_row(numbers, 4, 10)
            if linear[1] != 0 and cubic[3] != 0:
                made.append(multiplied(linear, cubic))
        self.check_within(200, REACHED, made)


class QuarticsOfTwoQuadratics(RootCase):
    def test_by_their_discriminants(self):
        seen = {}
        for p, q in itertools.combinations_with_replacement(quadratics(), 2):
            count = (discriminant(p) >= 0) + (discriminant(q) >= 0)
            seen[count] = seen.get(count, 0) + 1
            self.assertEqual(root(multiplied(p, q)), REACHED if count > 0 else NOT_REACHED, (p, q))
        for count in (0, 1, 2):
            self.assertGreater(seen[count], 500)

    def test_both_are_zero_somewhere(self):
        self.check(REACHED, multiplied([-2, 0, 1], [-3, 0, 1]), multiplied([-1, -1, 1], [-1, 1, 1]))
        self.check(REACHED, multiplied([-5, 3, 7], [-11, 2, 13]), multiplied([1, -3, 1], [-2, 0, 5]))

    def test_one_is_zero_somewhere(self):
        self.check(REACHED, multiplied([-2, 0, 1], [1, 0, 1]), multiplied([-2, 0, 1], [2, 0, 1]))
        self.check(REACHED, multiplied([-1, 1, 1], [1, 1, 1]), multiplied([-5, 3, 7], [11, 2, 13]))

    def test_none_is_zero_somewhere(self):
        self.check(NOT_REACHED, multiplied([1, 0, 1], [2, 0, 1]), multiplied([1, 1, 1], [1, -1, 1]))
        self.check(NOT_REACHED, multiplied([5, 3, 7], [11, 2, 13]), multiplied([2, 1, 3], [2, 1, 3]))

    def test_great_parts(self):
        numbers = whole_numbers(44)
        seen = {}
        for turn in range(3000):
            farthest = (30, 18, 9)[turn % 3]
            p, q = mixed_row(numbers, 3, farthest), mixed_row(numbers, 3, farthest)
            if p[2] != 0 and q[2] != 0 and is_within(multiplied(p, q)):
                answer = REACHED if max(discriminant(p), discriminant(q)) >= 0 else NOT_REACHED
                seen[answer[0]] = seen.get(answer[0], 0) + 1
                self.assertEqual(root(multiplied(p, q)), answer, (p, q))
        for answer in (0, 1):
            self.assertGreater(seen[answer], 100)


class QuarticsAtNumbersWithRoots(RootCase):
    def test_by_hand(self):
        # The fourth root of 2; the roots of 2 and of 3 together; the roots of 2 + r, of 2 - r and of 1 + r.
        self.check(REACHED, [-2, 0, 0, 0, 1], [1, 0, -10, 0, 1], [2, 0, -4, 0, 1], [-1, 0, -2, 0, 1])
        # Twice the cosines of a 15th, a 16th, a 20th and a 24th of a turn.
        self.check(REACHED, [1, 4, -4, -1, 1], [2, 0, -4, 0, 1], [5, 0, -5, 0, 1], [1, 0, -4, 0, 1])

    def test_one_root(self):
        made = []
        for u, v, w, m in itertools.product((-3, 0, 1, 4), (1, -2), (1, 2, 3), (2, 3, 5, 7)):
            made += [multiplied([u * u - v * v * m, -2 * u * w, w * w], other)
                     for other in ([1, 0, 1], [2, 3, 5], [1, 1, 1], [-7, 1, 3])]
        self.check_within(300, REACHED, made)

    def test_two_roots(self):
        made = []
        for m, n in itertools.combinations(range(1, 14), 2):
            sum_of_roots = [(m - n) ** 2, 0, -2 * (m + n), 0, 1]
            made += [shifted(stretched(sum_of_roots, under), u) for under in (1, 2) for u in (0, 1, -2)]
        self.check_within(150, REACHED, made)

    def test_two_roots_by_parts(self):
        made = [quartic_of(k, [f, 0], x) for k, f in ((2, 3), (2, 5), (3, 7), (4, 3), (2, 2), (2, 8))
                for x in itertools.product((-1, 0, 2), (0, 1), (-1, 0, 1), (-1, 0, 1, 2))]
        self.check_within(100, REACHED, made)

    def test_a_root_of_a_number_with_a_root(self):
        made = []
        for m, n, k in itertools.product(range(-4, 8), (1, -1, 2), (2, 3, 5, 6, 7)):
            if expected_side(1, [k], [m, n]) == [2]:
                nested = [m * m - n * n * k, 0, -2 * m, 0, 1]
                made += [nested, stretched(nested, 2), stretched(nested, 3), shifted(nested, 1), shifted(nested, -2),
                         shifted(stretched(nested, 2), 1)]
        self.check_within(400, REACHED, made)

    def test_a_root_of_a_number_with_a_root_by_parts(self):
        radicands = ((2, [1, 1]), (2, [3, -1]), (2, [2, 1]), (3, [1, 1]), (5, [0, 1]), (5, [-1, 1]), (5, [5, 2]),
                     (2, [3, 2]), (9, [-1, 1]))
        made = []
        for k, radicand in radicands:
            self.assertEqual(expected_side(1, [k], radicand), [2])
            for x in itertools.product((-2, 0, 1, 3), (-1, 0, 2), (-1, 0, 1, 2), (0, 1)):
                p = quartic_of(k, radicand, x)
                made += [p, stretched(p, 2), stretched(p, 3)]
        self.check_within(500, REACHED, made)

    def test_such_numbers_with_great_parts(self):
        numbers = whole_numbers(45)
        made = []
        for turn in range(6000):
            k = 1 + next(numbers) % 30
            radicand = mixed_row(numbers, 2, 15)
            if expected_side(1, [k], radicand) == [2]:
                made.append(quartic_of(k, radicand, mixed_row(numbers, 4, 2)))
        self.check_within(200, REACHED, made)


class QuarticsNotReached(RootCase):
    def test_by_hand(self):
        for p in ([-1, -1, 0, 0, 1], [-1, 1, 0, 0, 1], [-2, 1, 1, 0, 1], [-3, 1, 0, 0, 1], [1, -4, 0, 0, 1],
                  [-2, 2, 0, 0, 1], [-5, -1, 1, 0, 1], [2, -4, 0, 0, 1], [-3, -5, 1, 1, 2], [1000, 1, -999, 2, 3]):
            self.assertGreater(count_of_places(p), 0)
            self.assertEqual(len(factors_of(p)), 1)
            self.check(NOT_REACHED, p)

    def test_with_twelve_swaps(self):
        for p in QUARTICS_WITH_TWELVE_SWAPS:
            self.assertEqual(count_of_places(p), 4)
            self.check(NOT_REACHED, p, stretched(p, 2), shifted(p, 1), shifted(p, -1))

    def test_by_remainders_of_two_and_three(self):
        numbers = whole_numbers(46)
        seen = {}
        for turn in range(600):
            p = [part + 6 * more for part, more in zip(QUARTIC_BY_SIX, mixed_row(numbers, 5, (2, 10, 165)[turn % 3]))]
            seen[count_of_places(p)] = True
            self.check(NOT_REACHED, p)
        self.assertEqual(sorted(seen), [0, 2, 4])

    def test_edges_by_remainders_of_two_and_three(self):
        # The numbers nearest to the edges that have the remainders.
        edges = [[-1000 + (part + 1000) % 6, 1000 - (1000 - part) % 6] for part in QUARTIC_BY_SIX]
        for p in itertools.product(*edges):
            self.assertGreater(min(abs(part) for part in p), 990)
            self.check(NOT_REACHED, p)


class QuarticsThatTouchZero(RootCase):
    def test_at_a_fraction(self):
        for above, below in itertools.product(range(-4, 5), range(1, 5)):
            twice = multiplied([-above, below], [-above, below])
            made = [multiplied(twice, other) for other in ([1, 0, 1], [2, 1, 1], [3, -2, 5], [0, 0, 1], [1, -2, 1])]
            self.check_within(4, REACHED, made)

    def test_at_a_number_that_is_no_fraction(self):
        self.check(REACHED, [4, 0, -4, 0, 1], [9, 0, -6, 0, 1], [1, -2, -1, 2, 1], [1, 2, -1, -2, 1])
        touching = [q for q in quadratics() if discriminant(q) > 0]
        self.check_within(30, REACHED, [multiplied(q, q) for q in touching])
        self.check_within(15, REACHED, [[3 * part for part in multiplied(q, q)] for q in touching])

    def test_squares_that_do_not_touch_it(self):
        apart = [q for q in quadratics() if discriminant(q) < 0]
        self.check_within(30, NOT_REACHED, [multiplied(q, q) for q in apart])
        self.check_within(15, NOT_REACHED, [[3 * part for part in multiplied(q, q)] for q in apart])

    def test_at_three_and_four_together(self):
        self.check(REACHED, [1, -4, 6, -4, 1], [16, -32, 24, -8, 1], [81, -216, 216, -96, 16], [-1, 2, 0, -2, 1])


class QuarticsInTheSquare(RootCase):
    def test_all_small_ones(self):
        # A root can be drawn from whatever is reached and isn't below 0: only whether there is such a square counts.
        for a, b, c in itertools.product(range(1, 7), range(-12, 13), range(-12, 13)):
            is_somewhere = b * b - 4 * a * c >= 0 and (b <= 0 or c <= 0)
            self.assertEqual(root([c, 0, b, 0, a]), REACHED if is_somewhere else NOT_REACHED, (a, b, c))
            self.assertEqual(root([-c, 0, -b, 0, -a]), REACHED if is_somewhere else NOT_REACHED, (a, b, c))

    def test_great_ones(self):
        numbers = whole_numbers(47)
        for turn in range(2000):
            c, b, a = mixed_row(numbers, 3, 1000)
            if a > 0:
                is_somewhere = b * b - 4 * a * c >= 0 and (b <= 0 or c <= 0)
                self.assertEqual(root([c, 0, b, 0, a]), REACHED if is_somewhere else NOT_REACHED, (a, b, c))

    def test_fourth_roots(self):
        for n in range(1, 1001):
            self.assertEqual(root([-n, 0, 0, 0, 1]), REACHED)
            self.assertEqual(root([n, 0, 0, 0, 1]), NOT_REACHED)

    def test_shifted_ones(self):
        made = {0: [], 1: []}
        for a, b, c in itertools.product((1, 2, 3), range(-5, 6), range(-5, 6)):
            is_somewhere = b * b - 4 * a * c >= 0 and (b <= 0 or c <= 0)
            made[is_somewhere] += [shifted([c, 0, b, 0, a], u) for u in (1, -1, 2)]
        self.check_within(300, REACHED, made[1])
        self.check_within(300, NOT_REACHED, made[0])


class AgainstFactorsAndRemainders(RootCase):
    def test_the_other_way_itself(self):
        self.assertEqual([expected_root(p)[0] for p in (
            [-2, 0, 0, 1], [-1, -6, 0, 8], [-8, 0, 0, 27], [0, 0, 0, 5], [1, 0, 0, 0, 1], [4, 0, -4, 0, 1],
            [-1, -1, 0, 0, 1], [-2, 0, 0, 0, 1], [1, 0, -10, 0, 1], [1, 4, 6, 4, 1], [0, 0, 0, 0, -7],
        )], [0, 0, 1, 1, 0, 1, 0, 1, 1, 1, 1])
        self.assertEqual(sorted(len(q) for q in factors_of([-6, 5, 5, -5, 1])), [2, 2, 2, 2])
        self.assertEqual(sorted(len(q) for q in factors_of([6, 0, -5, 0, 1])), [3, 3])
        self.assertEqual(sorted(len(q) for q in factors_of([-6, 2, 0, -3, 1])), [2, 4])
        self.assertIn(without_repeats([4, 0, -4, 0, 1]), ([-2, 0, 1], [2, 0, -1]))

    def test_all_small_cubics(self):
        for p in itertools.product(range(-3, 4), range(-3, 4), range(-3, 4), (1, 2, 3)):
            self.check_expected(list(p))

    def test_small_quartics(self):
        answers = [self.check_expected(list(p))
                   for p in itertools.product((-2, -1, 1, 3), range(-2, 3), range(-2, 3), range(-2, 3), (1, -2))]
        self.assertGreater(sum(answers), 100)
        self.assertGreater(answers.count(0), 100)

    def test_mixed_ones(self):
        numbers = whole_numbers(48)
        for turn in range(1500):
            p = mixed_row(numbers, 4 + turn % 2, (4, 12, 50, 200, 1000)[turn // 2 % 5])
            if p[-1] != 0:
                self.check_expected(p)

    def test_differences_of_squares(self):
        # Such quartics are two quadratics multiplied, once a root is allowed of m.
        numbers = whole_numbers(49)
        seen = {0: 0, 1: 0}
        for turn in range(1500):
            farthest = (2, 4, 8)[turn % 3]
            q, line = mixed_row(numbers, 3, farthest), mixed_row(numbers, 2, farthest)
            m = next(numbers) % 21 - 10
            taken_off = [m * part for part in multiplied(line, line)] + [0, 0]
            p = [left - right for left, right in zip(multiplied(q, q), taken_off)]
            if p[-1] != 0 and is_within(p):
                seen[self.check_expected(p)] += 1
        self.assertGreater(min(seen.values()), 100)

    def test_the_same_forward_and_backward(self):
        for a, b, c in itertools.product((1, 2, 5), range(-5, 6), range(-6, 7)):
            self.check_expected([a, b, c, b, a])
            self.check_expected([a, -b, c, b, a])

    def test_at_the_edges(self):
        for p in itertools.product((1000, -1000), repeat=4):
            self.check_expected(list(p))
        for p in itertools.product((1000, -1000), repeat=5):
            self.check_expected(list(p))
        for p in itertools.product((1000, 0, -999), repeat=4):
            self.check_expected(list(p) + [-1000])
            if p[-1] != 0:
                self.check_expected(list(p))

    def test_pairs_of_places_with_great_products(self):
        # Of the three ways to part the places of these into pairs, one alone gives a whole number, of 1974 to 2000,
        # when the products of the pairs are added up and multiplied by the last number.
        far_off = ([1000, 1000, -1000, 1000, 1000], [1000, 997, -993, 997, 1000], [987, 987, -756, 420, 960])
        self.check(REACHED, *far_off)
        for p in far_off + ([981, 976, 498, -976, 981], [986, -860, 539, 969, 946], [987, 841, 902, -927, 825]):
            self.check_expected(p)


class NotAllowed(RootCase):
    def check_refused(self, *rows):
        for p in rows:
            self.assertEqual(root(p), [-2], p)

    def test_lengths(self):
        for length in range(21):
            for part in (1, -1, 1000):
                if length in (4, 5):
                    self.assertIn(root([part] * length), ([0], [1]))
                else:
                    self.check_refused([part] * length)
        self.check_refused([], [1], [-2, 1], [-2, 0, 1], [-2, 0, 0, 0, 0, 1], [0, 0, 0, 0, 1, 1], [0] * 20)

    def test_the_last_is_zero(self):
        self.check_refused([-1, 0, 1, 0], [0, 0, 0, 0], [1, 2, 3, 0], [-2, 0, 0, 1, 0], [0] * 5, [1, 0, 0, 0, 0])
        self.check_refused([-1, 1, 0, 0], [-1, 1, 0, 0, 0], [1000, 1000, 1000, 0], [1000, 1000, 1000, 1000, 0])

    def test_ranges(self):
        for length, part in itertools.product((4, 5), FAR_OFF):
            for place in range(length):
                p = [1] * length
                p[place] = part
                self.check_refused(p)
                p = [0] * (length - 1) + [1]
                p[place] = part
                self.check_refused(p)

    def test_several_reasons_together(self):
        self.check_refused([1001, 0, 0, 0], [0, 0, -1001, 0, 0], [1001] * 20, [GREATEST] * 3, [SMALLEST] * 6, [0] * 6)

    def test_the_edges_are_allowed(self):
        for length in (4, 5):
            for place in range(length):
                for part in (1000, -1000, 999, -999):
                    p = [1] * length
                    p[place] = part
                    self.check_expected(p)
        self.check(REACHED, [-1000, 0, 0, 1], [0, 0, 0, 1000], [-1000, 0, 0, 0, 1], [1000, 0, 0, 0, -1000])
        self.check(NOT_REACHED, [1000, 0, 0, 0, 1], [1000, 0, 0, 0, 1000], [-999, 0, 0, 1000])


class Quickness(RootCase):
    def test_numbers_with_many_divisors(self):
        for first, last in itertools.product((840, -720, 960, 1000, 997, 1), (840, 720, -960, 1000, -997, 1)):
            for between in ([1, 1, 1], [0, 0, 0], [7, -840, 13], [1000, -1000, 1000], [1, 1], [-840, 720]):
                p = [first] + between + [last]
                self.assertEqual(check_steps(200000, lambda: root(p)), root(p))

    def test_refused_ones(self):
        for p in ([GREATEST] * 4, [SMALLEST] * 5, [GREATEST] * 20, [1, 1, 1, 1, GREATEST], [SMALLEST, 0, 0, 1]):
            self.assertEqual(check_steps(200, lambda: root(p)), [-2])


class HowItIsCalled(Manners, unittest.TestCase):
    function = staticmethod(root)
    CALLS = tuple((p,) for p in (
        [-2, 0, 0, 1], [-1, -6, 0, 8], [-8, 0, 0, 1], [-1, 0, 0, 8], [0, 0, 0, 1], [1, 0, 0, 0, 1], [4, 0, -4, 0, 1],
        [-1, -1, 0, 0, 1], [1, 0, -10, 0, 1], [2, 0, -4, 0, 1], [2, 0, 4, 0, 1], [1, 2, 3, 2, 1], [1000] * 5,
        [-1000] * 4, [0, 1, 0, 0, 1], [], [1], [1] * 6, [1] * 20, [1, 1, 1, 0], [1, 1, 1, 1, 0], [1001, 0, 0, 1],
        [0, 0, 0, 0, -1001], [SMALLEST] * 5, [GREATEST] * 4,
    ))


if __name__ == "__main__":
    unittest.main()
