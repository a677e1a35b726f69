import itertools
import math
import unittest

from compasses.reach import sign, square, times
from tests.support import (
    GREATEST, RADICANDS_AND_NUMBERS, SMALLEST, WRONG_NUMBERS_OF_ROOTS,
    Manners, expected_product, expected_square, mixed_radicands, mixed_row, negated,
    square_by_hand, unit, whole_numbers,
)

IS_SQUARE = [1]
IS_NONE = [0]

# Radicands without a root that the ones ahead of it make needless, and then with one or two such.
RADICANDS = (
    (1, [2]), (1, [3]), (1, [5]), (1, [8]), (1, [12]), (1, [45]), (1, [72]), (1, [98]),
    (2, [2, 3, 0]), (2, [2, 1, 1]), (2, [2, 2, 1]), (2, [3, 2, 1]), (2, [5, 7, 3]), (2, [8, 12, 0]), (2, [5, 5, 1]),
    (1, [1]), (1, [4]), (1, [100]),
    (2, [4, 2, 0]), (2, [9, -1, 1]), (2, [2, 2, 0]), (2, [2, 8, 0]), (2, [2, 3, 2]), (2, [2, 3, -2]), (2, [8, 3, 1]),
    (2, [4, 9, 0]), (2, [1, 1, 0]), (2, [4, 2, 1]),
)


def squared(k, d, y):
    return expected_product(k, d, y, y)[1:]


def is_within(x, farthest=1000):
    return max(abs(part) for part in x) <= farthest


def divided(x, n):
    """Give x over n where all its parts are whole then, else None."""
    return None if any(part % n for part in x) else [part // n for part in x]


class SquareCase(unittest.TestCase):
    def check(self, k, d, x, answer):
        with self.subTest(k=k, d=d, x=x):
            self.assertEqual(square(k, d, x), answer)

    def check_squares(self, k, d, *rows):
        for x in rows:
            self.check(k, d, list(x), IS_SQUARE)

    def check_others(self, k, d, *rows):
        for x in rows:
            self.check(k, d, list(x), IS_NONE)


class NoRoot(SquareCase):
    def test_all(self):
        squares = [n * n for n in range(32)]
        for n in range(-1000, 1001):
            self.check(0, [], [n], IS_SQUARE if n in squares else IS_NONE)


class OneRoot(SquareCase):
    def test_zero_and_one(self):
        for d in range(1, 101):
            self.check_squares(1, [d], [0, 0], [1, 0])

    def test_squares(self):
        self.check_squares(1, [2], [3, 2], [3, -2], [6, 4], [6, -4], [11, 6], [9, 4], [17, 12], [577, 408])
        self.check_squares(1, [3], [4, 2], [7, 4], [7, -4], [13, 4], [28, 10])
        self.check_squares(1, [5], [6, 2], [6, -2], [9, 4], [14, 6])

    def test_others(self):
        # Their norms, 7, 2, -1, 17 and 28, aren't squares.
        self.check_others(1, [2], [3, 1], [2, 1], [1, 1], [5, 2], [6, 2])
        # Their norms are squares, but they're 3, 5 or 7 times a square.
        self.check_others(1, [2], [9, 6], [9, -6], [15, 10], [21, 14], [18, 12])

    def test_no_part_beside_the_root(self):
        # The root of such a number has either only the plain part, or only the other.
        for d in range(2, 101):
            if math.isqrt(d) ** 2 != d:
                for n in range(1, 32):
                    self.check_squares(1, [d], [n * n, 0])
                    self.check(1, [d], [-n * n, 0], IS_NONE)
                    if n * n * d <= 1000:
                        self.check_squares(1, [d], [n * n * d, 0])
                        self.check_others(1, [d], [-n * n * d, 0])
        self.check_others(1, [2], [3, 0], [5, 0], [6, 0], [7, 0], [10, 0], [1000, 0], [-2, 0], [-1, 0])
        self.check_others(1, [6], [2, 0], [3, 0], [12, 0], [-6, 0], [5, 0])
        self.check_squares(1, [6], [6, 0], [24, 0], [54, 0], [150, 0], [600, 0])

    def test_no_plain_part(self):
        # The norm is below 0 then, so no such number is a square.
        for d in (2, 3, 5, 8, 99):
            for b in (1, -1, 2, 4, d, 999, 1000, -1000):
                self.check_others(1, [d], [0, b])

    def test_roots_with_fractions(self):
        self.check_squares(1, [8], [2, 0], [3, 1], [3, -1], [11, 3], [6, 2])
        self.check_squares(1, [12], [3, 0], [4, 1], [7, 2], [4, -1])
        self.check_squares(1, [18], [2, 0], [11, 2], [11, -2])
        self.check_squares(1, [45], [5, 0], [14, 2])
        self.check_squares(1, [50], [2, 0], [27, 2])
        self.check_squares(1, [72], [2, 0], [11, 1], [18, 0])
        self.check_squares(1, [98], [2, 0], [51, 2])
        self.check_others(1, [8], [3, 0], [4, 1], [5, 0], [-2, 0])
        self.check_others(1, [12], [2, 0], [3, 1], [-3, 0])

    def test_numbers_below_zero(self):
        self.check_others(1, [2], [-3, -2], [-3, 2], [-6, -4], [1, -1], [-1, 0], [0, -1], [-1000, -1000], [7, -5])
        self.check_others(1, [4], [-1, 0], [0, -2], [1, -1], [-2, -1], [-1000, 0], [2, -3])

    def test_numbers_whose_root_needs_one_root_more(self):
        self.check_others(1, [2], [0, 1], [2, 1], [3, 1], [7, -4], [99, -69], [1, 1])
        self.check_others(1, [5], [3, 1], [5, 2], [0, 1])


class TwoRoots(SquareCase):
    def test_zero_and_one(self):
        for k, d in RADICANDS:
            self.check_squares(k, d, unit(k, 0, 0), unit(k, 0))

    def test_squares(self):
        d = [2, 3, 0]
        self.check_squares(2, d, [5, 0, 0, 2], [5, 0, 0, -2], [3, 2, 0, 0], [4, 0, 2, 0], [12, 8, 6, 4], [7, 0, 0, 2])
        d = [2, 1, 1]
        self.check_squares(2, d, [2, 1, 2, 0], [2, 1, -2, 0], [3, 1, 0, 2], [3, 2, 0, 0])

    def test_numbers_whose_root_needs_one_root_more(self):
        self.check_others(2, [2, 3, 0], [0, 1, 0, 0], [2, 1, 0, 0], [0, 1, 1, 0], [3, 1, 1, 0], [7, 0, 0, 1])

    def test_others(self):
        d = [2, 3, 0]
        # 5, 7 and 10 are no squares times 2, 3 or 6; below 0 are conjugates of the others.
        self.check_others(2, d, [5, 0, 0, 0], [7, 0, 0, 0], [10, 0, 0, 0], [15, 10, 0, 0], [25, 0, 0, 10])
        self.check_others(2, d, [0, 1, 0, 0], [0, 0, 1, 0], [0, 0, 0, 1], [1, 1, 0, 0], [1, 1, 1, 0], [2, 0, 0, 1])
        d = [2, 1, 1]
        self.check_others(2, d, [0, 1, 0, 0], [2, 1, 0, 0], [0, 0, 1, 0], [3, 0, 0, 0], [1, 0, 1, 0], [9, 6, 0, 0])

    def test_radicands_and_what_is_they_times_a_square(self):
        self.check_squares(2, [2, 3, 0], [2, 0, 0, 0], [3, 0, 0, 0], [6, 0, 0, 0], [8, 0, 0, 0], [12, 0, 0, 0],
                           [24, 0, 0, 0], [150, 0, 0, 0], [6, 4, 0, 0], [9, 6, 0, 0], [18, 12, 0, 0])
        for k, d in RADICANDS:
            self.check_squares(k, d, unit(k, 0, d[0]), unit(k, 0, 4 * d[0]), unit(k, 0, 9 * d[0]))
            if k == 2:
                plain = d[1:] + [0, 0]
                self.check_squares(k, d, plain, [9 * part for part in plain], times(k, d, plain, [d[0], 0, 0, 0])[1:])
                self.check_squares(k, d, times(k, d, plain, squared(k, d, [1, 1, 0, 0]))[1:])

    def test_no_part_beside_the_second_root(self):
        # In the first field 3 is no square; with the root of 3 it is, and so is 3 times a square.
        self.check_others(1, [2], [3, 0], [9, 6])
        self.check_squares(2, [2, 3, 0], [3, 0, 0, 0], [9, 6, 0, 0], [9, -6, 0, 0])
        # 1 + r has the second root as its own root; 2 + r, being r times that, has it not.
        self.check_squares(2, [2, 1, 1], [1, 1, 0, 0], [2, 2, 0, 0], [7, 5, 0, 0], [3, 2, 0, 0], [2, 0, 0, 0])
        self.check_others(2, [2, 1, 1], [2, 1, 0, 0], [3, 3, 0, 0], [-1, -1, 0, 0], [3, 1, 0, 0])

    def test_no_part_but_beside_the_second_root(self):
        # The second root times something: it has a conjugate below 0.
        self.check_others(2, [2, 3, 0], [0, 0, 1, 0], [0, 0, 3, 2], [0, 0, 2, 0], [0, 0, 0, 1], [0, 0, 1, 1])
        # Where s is 2 r, so that r s is 4, it may be a square.
        self.check_squares(2, [2, 8, 0], [0, 0, 0, 1], [0, 0, 0, 4], [0, 0, 4, 3])

    def test_roots_with_fractions(self):
        # 2 + s is the square of (r + r s) / 2.
        self.check_squares(2, [2, 3, 0], [2, 0, 1, 0], [2, 0, -1, 0], [8, 0, 4, 0], [6, 4, 3, 2])
        self.check_squares(2, [3, 5, 0], [4, 2, 0, 0], [8, 0, 0, 2])
        self.check_squares(2, [8, 12, 0], [2, 0, 0, 0], [3, 0, 0, 0], [6, 0, 0, 0], [3, 1, 0, 0], [4, 0, 1, 0],
                           [24, 0, 0, 0])
        self.check_others(2, [2, 3, 0], [3, 0, 1, 0], [2, 1, 0, 0], [4, 0, 1, 0])
        self.check_others(2, [8, 12, 0], [5, 0, 0, 0], [3, 0, 1, 0], [7, 0, 0, 0])

    def test_numbers_below_zero(self):
        self.check_others(2, [2, 3, 0], [-1, 0, 0, 0], [-2, 0, 0, 0], [-3, 0, 0, 0], [-6, 0, 0, 0], [-5, 0, 0, -2],
                          [-5, 0, 0, 2], [-3, -2, 0, 0], [-2, 0, -1, 0], [0, 1, -1, 0], [-1000, -1000, -1000, -1000])
        self.check_others(2, [2, 1, 1], [-1, -1, 0, 0], [-2, -1, -2, 0], [1, 0, -1, 0])
        self.check_others(2, [4, 9, 0], [-1, 0, 0, 0], [1, -1, 0, 0], [0, 1, -1, 0], [5, 0, 0, -1])


class NeedlessRoots(SquareCase):
    def test_the_first_is_whole(self):
        for a, b in itertools.product(range(-20, 21), repeat=2):
            for root in (1, 2, 3, 10):
                value = a + root * b
                answer = IS_SQUARE if value >= 0 and math.isqrt(value) ** 2 == value else IS_NONE
                self.check(1, [root * root], [a, b], answer)
        self.check_squares(1, [100], [1000, -100], [0, 10], [-1000, 190])
        self.check_squares(1, [1], [1000, -1000], [-1000, 1000], [1000, -39])

    def test_the_first_is_whole_and_the_second_is_needed(self):
        # The numbers are those with the root of 2 alone.
        for d in ([4, 2, 0], [4, 0, 1], [1, 3, -1], [9, -1, 1], [9, 8, -2], [100, -98, 10]):
            root = math.isqrt(d[0])
            self.check_squares(2, d, [3, 0, 2, 0], [3 - root, 1, 2, 0], [3, 0, 2 + root, -1])
            self.check_squares(2, d, [3 + root, -1, 2 - root, 1])
            self.check_squares(2, d, [2, 0, 0, 0], [2 - root, 1, 0, 0], [root, -1, 0, 0], [0, 0, root, -1])
            self.check_squares(2, d, [root, -1, root, -1], [0, 0, -root, 1])
            self.check_others(2, d, [3, 0, 0, 0], [3 - root, 1, 0, 0], [0, 0, 1, 0], [0, 0, 0, 1], [9, 0, 6, 0])
            self.check_others(2, d, [9 - root, 1, 6 - root, 1], [-1, 0, 0, 0], [root - 1, -1, 0, 0])

    def test_the_second_is_a_number_with_the_first(self):
        # s is r, 2 r, 1 + r, r - 1, 2 + r, 5 r - 7.
        for q, (a, b) in (((2, 0), (0, 1)), ((8, 0), (0, 2)), ((3, 2), (1, 1)), ((3, -2), (-1, 1)), ((6, 4), (2, 1)),
                          ((99, -70), (-7, 5))):
            d = [2, q[0], q[1]]
            for e, f in itertools.product(range(-2, 3), repeat=2):
                # What is told with e + f r beside s is taken from the plain parts again.
                plain = expected_product(1, [2], [a, b], [e, f])[1:]
                for x in ([3, 2], [2, 0], [1, 0], [11, 6], [0, 0]):
                    self.check_squares(2, d, [x[0] - plain[0], x[1] - plain[1], e, f])
                for x in ([3, 0], [0, 1], [9, 6], [-1, 0], [-3, -2], [2, 1], [1, -1]):
                    self.check_others(2, d, [x[0] - plain[0], x[1] - plain[1], e, f])

    def test_the_root_above_zero_is_meant(self):
        # s is r - 1, so 4 + r + s is 3 + 2 r; with 1 - r it would be 5.
        self.check_squares(2, [2, 3, -2], [4, 1, 1, 0])
        self.check_others(2, [2, 3, -2], [2, 3, 1, 0], [5, 1, 0, 0], [4, -1, -1, 0])
        self.check_squares(2, [2, 99, -70], [10, -3, 1, 0])
        self.check_others(2, [2, 99, -70], [-4, 7, 1, 0])

    def test_the_second_is_a_number_with_the_first_and_fractions(self):
        # s is half of r, 1 + r / 2, 3 + r / 3.
        self.check_squares(2, [8, 2, 0], [3, 0, 2, 0], [3, 1, 0, 0], [0, 1, -2, 0], [0, 0, 0, 1], [1, 0, 0, 2])
        self.check_others(2, [8, 2, 0], [0, 0, 1, 0], [3, 0, 1, 0], [3, 0, 0, 0], [9, 0, 6, 0])
        self.check_squares(2, [8, 3, 1], [1, 0, 2, 0], [2, 1, -2, 0], [3, 1, 0, 0], [2, 0, 0, 0])
        self.check_others(2, [8, 3, 1], [0, 0, 1, 0], [3, 0, 2, 0], [5, 0, 0, 0])
        self.check_squares(2, [18, 11, 2], [-3, 0, 2, 0], [9, 1, -3, 0], [2, 0, 0, 0])
        self.check_others(2, [18, 11, 2], [0, 0, 1, 0], [-1, 0, 2, 0])

    def test_both_are_whole(self):
        for d, (r, s) in (([4, 9, 0], (2, 3)), ([4, 5, 2], (2, 3)), ([1, 1, 0], (1, 1)), ([9, -2, 1], (3, 1))):
            for x in itertools.product((-5, -1, 0, 2, 3), repeat=4):
                value = x[0] + r * x[1] + s * x[2] + r * s * x[3]
                answer = IS_SQUARE if value >= 0 and math.isqrt(value) ** 2 == value else IS_NONE
                self.check(2, d, list(x), answer)

    def test_zero_by_parts_that_are_not(self):
        self.check_squares(1, [4], [2, -1], [-2, 1], [1000, -500])
        self.check_squares(2, [4, 2, 1], [2, -1, 0, 0], [0, 0, 2, -1], [2, -1, 2, -1], [2, 0, -1, 0], [0, 1, -1, 0])
        self.check_squares(2, [2, 8, 0], [0, 2, -1, 0], [4, 0, 0, -1], [4, -2, 1, -1])
        self.check_squares(2, [2, 6, 4], [2, 1, -1, 0], [-4, -3, 1, 1])
        self.check_squares(2, [2, 99, -70], [7, -5, 1, 0])
        self.check_others(2, [2, 99, -70], [-7, 5, 1, 0])


class DrawnSquares(SquareCase):
    def test_of_whole_parts_and_of_fractions(self):
        counts = {}
        for k, d in RADICANDS:
            for y in itertools.product(range(-2, 4), repeat=2 ** k):
                y_y = squared(k, d, y)
                for under in (1, 2, 3, 4, 6):
                    x = divided(y_y, under * under)
                    if x is not None and is_within(x) and math.gcd(under, *y) == 1:
                        counts[k, under] = counts.get((k, under), 0) + 1
                        if square(k, d, x) != IS_SQUARE:
                            self.fail(f"square({k}, {d}, {x})")
        for key in ((1, 1), (1, 2), (1, 3), (2, 1), (2, 2), (2, 3), (2, 4)):
            self.assertGreater(counts.get(key, 0), 5, key)

    def test_of_great_parts(self):
        numbers = whole_numbers(21)
        count = 0
        for turn in range(4000):
            k = 1 + turn % 2
            d = mixed_radicands(numbers, k, (5, 100)[turn // 2 % 2])
            y = mixed_row(numbers, 2 ** k, (30, 9)[turn % 2])
            x = squared(k, d, y)
            if is_within(x) and sign(k, d, x) != [-3]:
                count += 1
                self.assertEqual(square(k, d, x), IS_SQUARE, (k, d, x))
        self.assertGreater(count, 100)

    def test_by_hand(self):
        for p, q in ((2, 3), (3, 5), (2, 7), (4, 3), (2, 8), (9, 4)):
            for y in itertools.product((-4, -1, 0, 3), repeat=4):
                x = square_by_hand(p, q, y)
                if is_within(x):
                    self.check_squares(2, [p, q, 0], x)


class NoSquaresTimesSquares(SquareCase):
    def check_times_squares(self, k, d, factors):
        """Check that none of the factors becomes a square by being multiplied by squares other than 0."""
        for factor in factors:
            for y in itertools.product((-2, 0, 1, 3), repeat=2 ** k):
                x = expected_product(k, d, factor, squared(k, d, y))[1:]
                if is_within(x) and sign(k, d, squared(k, d, y)) == [2]:
                    self.check(k, d, x, IS_NONE)

    def test_one_root(self):
        # Below 0 are -1 and a conjugate of r and of 1 + r; 3 and 6 aren't 2 times a square.
        self.check_times_squares(1, [2], ([-1, 0], [0, 1], [1, 1], [3, 0], [6, 0]))
        self.check_times_squares(1, [8], ([-1, 0], [0, 1], [1, 1], [3, 0], [6, 0]))
        self.check_times_squares(1, [9], ([-1, 0], [2, 0], [0, 1], [-1, 1], [2, 1]))

    def test_two_roots(self):
        self.check_times_squares(2, [2, 3, 0], ([-1, 0, 0, 0], [5, 0, 0, 0], [0, 1, 0, 0], [0, 0, 1, 0], [1, 0, 1, 1]))
        # With the root of 1 + r, whose conjugate is below 0: -1 and a conjugate of 1 - s and of s - 1 are below 0.
        self.check_times_squares(2, [2, 1, 1], ([-1, 0, 0, 0], [-1, 0, 1, 0], [1, 0, -1, 0], [0, 0, 1, 0]))
        self.check_times_squares(2, [2, 3, 2], ([-1, 0, 0, 0], [0, 1, 0, 0], [0, 0, 1, 0], [3, 0, 0, 0]))
        self.check_times_squares(2, [4, 2, 0], ([-1, 0, 0, 0], [1, 1, 0, 0], [0, 0, 1, 0], [1, 0, 1, 0]))


class AgainstConjugates(SquareCase):
    def check_expected(self, k, d, x):
        answer = square(k, d, x)
        if answer != expected_square(k, d, x):
            self.fail(f"square({k}, {d}, {x}) is {answer}")
        return answer

    def test_all_small_ones_with_one_root(self):
        for d in (1, 2, 3, 4, 5, 6, 8, 12, 99, 100):
            for x in itertools.product(range(-4, 13), range(-4, 5)):
                self.check_expected(1, [d], list(x))

    def test_small_ones_with_two_roots(self):
        for k, d in RADICANDS:
            if k == 2:
                answers = [self.check_expected(k, d, list(x))
                           for x in itertools.product((-1, 0, 2, 3), (-2, 0, 1, 2), (0, 1, 2), (-1, 0, 1))]
                self.assertIn(IS_SQUARE, answers)
                self.assertIn(IS_NONE, answers)

    def test_mixed_ones(self):
        numbers = whole_numbers(22)
        seen = {}
        for turn in range(1500):
            k = 1 + turn % 2
            d = mixed_radicands(numbers, k, (3, 10, 100)[turn % 3])
            x = mixed_row(numbers, 2 ** k, (2, 5, 20, 1000)[turn // 2 % 4])
            if turn % 5 == 0:
                x[2 ** (k - 1):] = [0] * 2 ** (k - 1)
            if square(k, d, x) != [-3]:
                answer = self.check_expected(k, d, x)
                seen[k, answer[0]] = seen.get((k, answer[0]), 0) + 1
        for key in itertools.product((1, 2), (0, 1)):
            self.assertGreater(seen.get(key, 0), 5, key)

    def test_second_radicands_that_are_squares(self):
        numbers = whole_numbers(23)
        for turn in range(600):
            first = 1 + next(numbers) % 12
            second = squared(1, [first], mixed_row(numbers, 2, 4))
            d = [first] + second
            x = mixed_row(numbers, 4, 6)
            if is_within(second, 100) and square(2, d, x) != [-3]:
                self.check_expected(2, d, x)
                y = mixed_row(numbers, 4, 2)
                for factor in (1, 2, 3):
                    x = [factor * part for part in squared(2, d, y)]
                    if is_within(x):
                        self.check_expected(2, d, x)

    def test_at_the_edges(self):
        for x in itertools.product((1000, -1000, 0), repeat=2):
            for d in (1, 99, 100):
                self.check_expected(1, [d], list(x))
        for d in ([100, 100, 100], [100, 100, -9], [99, 100, 100], [99, 100, -10], [98, -98, 10], [1, 100, -99]):
            for x in itertools.product((1000, -1000), repeat=4):
                self.check_expected(2, d, list(x))


class NotAllowed(SquareCase):
    def test_number_of_roots(self):
        for k in WRONG_NUMBERS_OF_ROOTS + (3,):
            for d, x in RADICANDS_AND_NUMBERS:
                self.check(k, d, x, [-2])

    def test_three_roots_are_too_many(self):
        self.check(3, [2, 3, 0, 5, 0, 0, 0], unit(3, 0), [-2])
        self.check(3, [2, 3, 0, 5, 0, 0, 0], [0] * 8, [-2])
        self.check(3, [4, 9, 0, 25, 0, 0, 0], unit(3, 0, 4), [-2])

    def test_lengths(self):
        for k in range(3):
            for length_of_d in range(21):
                for length_of_x in range(21):
                    fits = length_of_d == 2 ** k - 1 and length_of_x == 2 ** k
                    # All roots are 1 or the root of 2 here, and x is 1.
                    x = [1] * min(length_of_x, 1) + [0] * (length_of_x - 1)
                    self.check(k, [1] * length_of_d, x, IS_SQUARE if fits else [-2])

    def test_range_of_the_radicands(self):
        for k in (1, 2):
            for place in range(2 ** k - 1):
                for part in (101, -101, 1000, -1000, SMALLEST, GREATEST):
                    d = [1] * (2 ** k - 1)
                    d[place] = part
                    self.check(k, d, unit(k, 0), [-2])

    def test_range_of_the_number(self):
        for k in (0, 1, 2):
            for place in range(2 ** k):
                for part in (1001, -1001, 1024, SMALLEST, GREATEST):
                    self.check(k, [1] * (2 ** k - 1), unit(k, place, part), [-2])

    def test_edges_of_the_ranges_are_allowed(self):
        self.check_others(0, [], [1000], [-1000])
        self.check_squares(1, [10], [1000, 0])
        self.check_squares(1, [100], [0, 1000])
        self.check_others(1, [100], [0, -1000], [-1000, 0], [1000, 0])
        self.check_squares(1, [100], [-1000, 100])
        self.check_squares(2, [4, -100, 100], [0, 0, 1000, 0])
        self.check_squares(2, [1, 100, -99], [1, 0, 0, 0], [-1000, 1000, 0, 0], [0, 0, -1000, 1000])
        self.check(1, [-100], [1, 1], [-3])
        self.check(2, [2, -100, -100], [1, 0, 0, 0], [-3])


class RadicandsNotAboveZero(SquareCase):
    def test_first(self):
        for part in (0, -1, -2, -4, -100):
            for x in ([1, 1], [0, 0], [1, 0], [4, 0], [-1, 0]):
                self.check(1, [part], x, [-3])
                self.check(2, [part, 1, 0], x + [0, 0], [-3])

    def test_second(self):
        for d in ([2, 0, 0], [2, -1, 0], [2, 0, -1], [2, -2, 1], [2, 1, -1], [2, 41, -29], [2, -99, 70],
                  [4, 2, -1], [4, -2, 1], [4, 100, -50], [100, -100, 10], [9, 2, -1], [2, -3, 2]):
            for x in ([1, 0, 0, 0], [0, 0, 0, 0], [-1, 0, 0, 0], [2, 0, 0, 0]):
                self.check(2, d, x, [-3])
        for d in ([2, -41, 29], [2, 99, -70], [4, 3, -1], [4, -1, 1], [9, -2, 1], [2, 0, 1], [2, 3, -2]):
            self.check(2, d, [1, 0, 0, 0], IS_SQUARE)

    def test_what_is_not_allowed_is_looked_at_first(self):
        self.check(1, [0], [1], [-2])
        self.check(1, [0], [], [-2])
        self.check(1, [0], [1, 1, 1], [-2])
        self.check(1, [-1], [1001, 0], [-2])
        self.check(1, [-1], [0, -1001], [-2])
        self.check(1, [-101], [1, 1], [-2])
        self.check(0, [-1], [1], [-2])
        self.check(3, [-1] * 7, [1] * 8, [-2])
        self.check(2, [-1, 1], [1, 0, 0, 0], [-2])
        self.check(2, [-1, 101, 0], [1, 0, 0, 0], [-2])
        self.check(2, [2, 1, -1], [1, 0, 0, 1001], [-2])
        self.check(2, [4, 2, -1], [1, 0, 0], [-2])


class HowItIsCalled(Manners, unittest.TestCase):
    function = staticmethod(square)
    CALLS = (
        (0, [], [49]), (0, [], [50]), (0, [], [0]), (0, [], [-1]), (1, [2], [3, 2]), (1, [2], [9, 6]), (1, [2], [2, 0]),
        (1, [4], [2, -1]), (1, [4], [2, 3]), (2, [2, 3, 0], [2, 0, 1, 0]), (2, [2, 3, 0], [5, 0, 0, 0]),
        (2, [2, 3, -2], [4, 1, 1, 0]), (2, [4, 2, 0], [3, 0, 2, 0]), (2, [2, 1, 1], [1, 1, 0, 0]),
        (1, [0], [1, 1]), (2, [2, 1, -1], [1, 0, 0, 0]), (1, [101], [1, 1]), (1, [2], [1]), (-1, [], []), (3, [], [1]),
        (3, [1] * 7, [1] * 8), (0, [1] * 20, [1] * 20),
    )


if __name__ == "__main__":
    unittest.main()
