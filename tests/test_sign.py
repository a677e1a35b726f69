import itertools
import unittest

from compasses.reach import sign
from tests.support import (
    GREATEST, RADICANDS_AND_NUMBERS, SMALLEST, WRONG_NUMBERS_OF_ROOTS,
    Manners, expected_side, mixed_radicands, mixed_row, negated, square_by_hand, whole_numbers,
)

ABOVE = [2]
ZERO = [1]
BELOW = [0]


class SignCase(unittest.TestCase):
    def check(self, k, d, x, answer):
        with self.subTest(k=k, d=d, x=x):
            self.assertEqual(sign(k, d, x), answer)

    def check_both_sides(self, k, d, x, answer):
        """Check x, and x the other way round."""
        self.check(k, d, x, answer)
        self.check(k, d, negated(x), [2 - answer[0]])


class OrdinaryNumbers(SignCase):
    def test_no_root(self):
        self.check_both_sides(0, [], [1], ABOVE)
        self.check_both_sides(0, [], [1000], ABOVE)
        self.check(0, [], [0], ZERO)

    def test_one_root(self):
        self.check_both_sides(1, [2], [1, 1], ABOVE)
        self.check_both_sides(1, [2], [3, -2], ABOVE)
        self.check_both_sides(1, [2], [1, -1], BELOW)
        self.check_both_sides(1, [2], [0, 1], ABOVE)
        self.check_both_sides(1, [2], [1, 0], ABOVE)
        self.check(1, [2], [0, 0], ZERO)

    def test_two_roots(self):
        # The parts go with 1, the first root, the second root, the product of both.
        self.check_both_sides(2, [2, 3, 0], [0, 1, -1, 0], BELOW)
        self.check_both_sides(2, [2, 3, 0], [0, -1, -1, 1], BELOW)
        self.check_both_sides(2, [2, 3, 0], [5, 0, 0, -2], ABOVE)
        self.check_both_sides(2, [2, 0, 1], [0, -1, 1, 0], BELOW)
        self.check_both_sides(2, [2, 1, 1], [-2, 0, 1, 0], BELOW)
        self.check_both_sides(2, [2, 1, 2], [-2, 0, 1, 0], BELOW)
        self.check_both_sides(2, [2, 1, 3], [-2, 0, 1, 0], ABOVE)
        self.check(2, [2, 3, 0], [0, 0, 0, 0], ZERO)

    def test_three_roots(self):
        d = [2, 3, 0, 5, 0, 0, 0]
        for place in range(8):
            x = [0] * 8
            x[place] = 1
            self.check_both_sides(3, d, x, ABOVE)
        self.check_both_sides(3, d, [0, 1, 1, 0, -1, 0, 0, 0], ABOVE)
        self.check_both_sides(3, d, [0, 1, 0, 0, -1, 0, 0, 0], BELOW)
        self.check_both_sides(3, d, [0, 0, 0, 1, -1, 0, 0, 0], ABOVE)
        self.check_both_sides(3, d, [0, 0, 0, 0, 3, 0, 0, -1], ABOVE)
        self.check_both_sides(3, d, [0, 0, 0, 0, 2, 0, 0, -1], BELOW)
        self.check(3, d, [0] * 8, ZERO)

    def test_the_third_radicand_is_taken_from_its_own_parts(self):
        # Twice the third root lies between 5 and 6 where its radicand is 1, r, s, r s together.
        d = [2, 3, 0, 1, 1, 1, 1]
        self.check_both_sides(3, d, [-5, 0, 0, 0, 2, 0, 0, 0], ABOVE)
        self.check_both_sides(3, d, [-6, 0, 0, 0, 2, 0, 0, 0], BELOW)
        self.check_both_sides(3, [2, 3, 0, 0, 7, 0, 0], [-3, 0, 0, 0, 1, 0, 0, 0], ABOVE)
        self.check_both_sides(3, [2, 3, 0, 0, 0, 5, 0], [-3, 0, 0, 0, 1, 0, 0, 0], BELOW)
        self.check_both_sides(3, [2, 3, 0, 0, 0, 0, 4], [-3, 0, 0, 0, 1, 0, 0, 0], ABOVE)


class NumbersThatAreZero(SignCase):
    def test_one_root_of_a_square(self):
        self.check(1, [4], [2, -1], ZERO)
        self.check(1, [4], [-2, 1], ZERO)
        self.check(1, [100], [1000, -100], ZERO)
        self.check(1, [1], [-1000, 1000], ZERO)
        self.check_both_sides(1, [4], [2, 1], ABOVE)
        self.check_both_sides(1, [4], [3, -1], ABOVE)

    def test_two_roots(self):
        self.check(2, [2, 2, 0], [0, 1, -1, 0], ZERO)
        self.check(2, [2, 8, 0], [0, -2, 1, 0], ZERO)
        self.check(2, [2, 8, 0], [4, 0, 0, -1], ZERO)
        self.check(2, [4, 9, 0], [-6, 0, 0, 1], ZERO)
        self.check(2, [2, 6, 4], [2, 1, -1, 0], ZERO)
        self.check(2, [2, 6, 4], [-4, -3, 1, 1], ZERO)
        self.check_both_sides(2, [2, 6, 4], [2, 1, 1, 0], ABOVE)

    def test_the_root_is_the_one_above_zero(self):
        # 99 - 70 r is the square of 5 r - 7, which is above 0, and of 7 - 5 r, which isn't.
        self.check(2, [2, 99, -70], [7, -5, 1, 0], ZERO)
        self.check_both_sides(2, [2, 99, -70], [-7, 5, 1, 0], ABOVE)

    def test_three_roots(self):
        self.check(3, [2, 3, 0, 5, 0, 0, 2], [0, 1, 1, 0, -1, 0, 0, 0], ZERO)
        self.check(3, [2, 3, 0, 6, 0, 0, 0], [0, 0, 0, 1, -1, 0, 0, 0], ZERO)
        self.check(3, [2, 3, 0, 6, 0, 0, 0], [6, 0, 0, 0, 0, 0, 0, -1], ZERO)
        self.check(3, [4, 9, 0, 25, 0, 0, 0], [30, 0, 0, 0, 0, 0, 0, -1], ZERO)
        self.check(3, [4, 2, 1, 2, 1, 1, 0], [1000, -500, 0, 0, -2, 1, 6, -3], ZERO)
        self.check_both_sides(3, [2, 3, 0, 5, 0, 0, 2], [0, 1, 1, 0, 1, 0, 0, 0], ABOVE)


class NumbersNearZero(SignCase):
    def test_one_root(self):
        self.check_both_sides(1, [2], [577, -408], ABOVE)
        self.check_both_sides(1, [2], [239, -169], BELOW)
        self.check_both_sides(1, [99], [199, -20], ABOVE)
        self.check_both_sides(1, [99], [995, -100], ABOVE)
        self.check_both_sides(1, [26], [515, -101], BELOW)
        self.check_both_sides(1, [26], [51, -10], ABOVE)
        self.check_both_sides(1, [26], [5, -1], BELOW)

    def test_two_roots(self):
        self.check_both_sides(2, [2, 3, 0], [910, 403, 383, -875], BELOW)
        self.check_both_sides(2, [7, 5, 3], [-773, -412, -498, 384], BELOW)
        self.check_both_sides(2, [2, 99, -70], [44, -9, 359, -565], ABOVE)

    def test_three_roots(self):
        # These are nearer to 0 than 10^-20, which the usual fractions of machines can't tell.
        self.check_both_sides(3, [2, 3, 0, 5, 0, 0, 0], [822, 50, 211, 302, 996, 150, -181, -730], BELOW)
        self.check_both_sides(3, [2, 2, 1, 2, 0, 1, 0], [-457, -265, -500, 225, -368, -376, -236, 739], ABOVE)
        self.check_both_sides(3, [97, -88, 9, 3, -1, 2, 5], [282, -115, -269, -700, -717, 70, -675, 215], BELOW)


class AgainstDecimalDigits(SignCase):
    def check_expected(self, k, d, x):
        answer = sign(k, d, x)
        if answer != expected_side(k, d, x):
            self.fail(f"sign({k}, {d}, {x}) is {answer}")
        return answer[0]

    def test_all_small_ones_with_one_root(self):
        for d in range(-2, 12):
            for x in itertools.product(range(-8, 9), repeat=2):
                self.check_expected(1, [d], list(x))

    def test_all_small_ones_with_two_roots(self):
        seen = {}
        for d in itertools.product((0, 1, 2, 4), (-2, -1, 0, 1, 2, 4), (-1, 0, 1, 2)):
            for x in itertools.product((-2, -1, 0, 1), repeat=4):
                seen[self.check_expected(2, list(d), list(x))] = True
        self.assertEqual(sorted(seen), [-3, 0, 1, 2])

    def test_mixed_ones(self):
        numbers = whole_numbers(1)
        seen = {}
        for k in (1, 2, 3):
            for farthest in (2, 4, 10, 100):
                for turn in range(150):
                    d = mixed_radicands(numbers, k, farthest)
                    x = mixed_row(numbers, 2 ** k, (1, 3, 1000)[turn % 3])
                    answer = self.check_expected(k, d, x)
                    seen[k, answer] = True
        for k in (1, 2, 3):
            for answer in (-3, 0, 2):
                self.assertIn((k, answer), seen)

    def test_third_roots_of_squares(self):
        seen = {}
        for p, q in ((2, 3), (2, 2), (2, 8), (3, 4), (4, 1), (5, 7)):
            for s in itertools.product((-1, 0, 1, 2), repeat=4):
                d = [p, q, 0] + square_by_hand(p, q, s)
                if max(d) <= 100:
                    for factor in (1, -1, 500, -500):
                        x = [500 * part for part in s] + [factor, 0, 0, 0]
                        seen[self.check_expected(3, d, x)] = True
        self.assertEqual(sorted(seen), [-3, 0, 1, 2])


class NotAllowed(SignCase):
    def test_number_of_roots(self):
        for k in WRONG_NUMBERS_OF_ROOTS:
            for d, x in RADICANDS_AND_NUMBERS:
                self.check(k, d, x, [-2])

    def test_lengths(self):
        for k in range(4):
            for length_of_d in range(21):
                for length_of_x in range(21):
                    fits = length_of_d == 2 ** k - 1 and length_of_x == 2 ** k
                    self.check(k, [1] * length_of_d, [1] * length_of_x, ABOVE if fits else [-2])

    def test_range_of_the_radicands(self):
        for k in (1, 2, 3):
            for place in range(2 ** k - 1):
                for part in (101, -101, 1000, -1000, SMALLEST, GREATEST):
                    d = [1] * (2 ** k - 1)
                    d[place] = part
                    self.check(k, d, [1] * 2 ** k, [-2])

    def test_range_of_the_number(self):
        for k in (0, 1, 2, 3):
            for place in range(2 ** k):
                for part in (1001, -1001, SMALLEST, GREATEST):
                    x = [0] * 2 ** k
                    x[place] = part
                    self.check(k, [1] * (2 ** k - 1), x, [-2])

    def test_edges_of_the_ranges_are_allowed(self):
        for k in (0, 1, 2, 3):
            for place in range(2 ** k):
                x = [0] * 2 ** k
                x[place] = 1000
                self.check_both_sides(k, [100] * (2 ** k - 1), x, ABOVE)
        self.check(1, [-100], [1, 1], [-3])
        self.check_both_sides(2, [1, 100, -99], [-1, 0, 1, 0], ZERO)
        self.check_both_sides(2, [2, -99, 100], [-6, 0, 1, 0], ABOVE)
        self.check_both_sides(2, [4, -100, 100], [-10, 0, 1, 0], ZERO)
        self.check_both_sides(3, [4, 9, 0, -100, 100, -100, 100], [-20, 0, 0, 0, 1, 0, 0, 0], ZERO)


class RadicandsNotAboveZero(SignCase):
    def test_first(self):
        for part in (0, -1, -2, -100):
            self.check(1, [part], [1, 1], [-3])
            self.check(1, [part], [0, 0], [-3])
            self.check(2, [part, 1, 0], [1, 0, 0, 0], [-3])
            self.check(3, [part, 1, 0, 1, 0, 0, 0], [1] + [0] * 7, [-3])

    def test_second(self):
        for d in ([2, 0, 0], [2, -1, 0], [2, 0, -1], [2, -2, 1], [2, 1, -1], [2, 41, -29], [2, -99, 70],
                  [4, 2, -1], [4, -2, 1], [4, 100, -50], [100, -100, 10], [9, 2, -1]):
            self.check(2, d, [1, 0, 0, 0], [-3])
            self.check(2, d, [0, 0, 0, 0], [-3])
            self.check(3, d + [1, 0, 0, 0], [1] + [0] * 7, [-3])
        for d in ([2, -41, 29], [2, 99, -70], [4, 3, -1], [4, -1, 1], [9, -2, 1]):
            self.check(2, d, [1, 0, 0, 0], ABOVE)

    def test_third(self):
        for d in ([2, 3, 0, 0, 0, 0, 0], [2, 3, 0, -1, 0, 0, 0], [2, 3, 0, 0, -1, 0, 0], [2, 3, 0, 0, 0, -1, 0],
                  [2, 3, 0, 0, 0, 0, -1], [2, 3, 0, 0, 1, -1, 0], [2, 3, 0, -7, -77, 16, 36],
                  [2, 2, 0, 0, 1, -1, 0], [2, 6, 4, 2, 1, -1, 0], [2, 99, -70, 7, -5, 1, 0],
                  [4, 9, 0, 6, 0, 0, -1], [97, -88, 9, 84, -2, -41, -4]):
            self.check(3, d, [1] + [0] * 7, [-3])
            self.check(3, d, [0] * 8, [-3])
        for d in ([2, 3, 0, 0, -1, 1, 0], [2, 3, 0, 7, 77, -16, -36], [2, 99, -70, -7, 5, 1, 0],
                  [97, -88, 9, -84, 2, 41, 4]):
            self.check(3, d, [1] + [0] * 7, ABOVE)

    def test_what_is_not_allowed_is_looked_at_first(self):
        self.check(1, [0], [1], [-2])
        self.check(1, [0], [], [-2])
        self.check(1, [0], [1, 1, 1], [-2])
        self.check(1, [-1], [1001, 0], [-2])
        self.check(1, [-1], [0, -1001], [-2])
        self.check(1, [-101], [1, 1], [-2])
        self.check(0, [-1], [1], [-2])
        self.check(4, [-1] * 15, [1] * 16, [-2])
        self.check(2, [-1, 1], [1, 0, 0, 0], [-2])
        self.check(2, [-1, 101, 0], [1, 0, 0, 0], [-2])
        self.check(2, [2, 1, -1], [1, 0, 0, 1001], [-2])
        self.check(3, [0, 0, 0, 0, 0, 0, 101], [0] * 8, [-2])
        self.check(3, [2, 3, 0, 0, 0, 0, -1], [0] * 7 + [1001], [-2])


class HowItIsCalled(Manners, unittest.TestCase):
    function = staticmethod(sign)
    CALLS = (
        (0, [], [7]), (0, [], [0]), (1, [2], [3, -2]), (1, [4], [2, -1]), (2, [2, 3, 0], [0, 1, -1, 0]),
        (3, [2, 3, 0, 5, 0, 0, 0], [822, 50, 211, 302, 996, 150, -181, -730]),
        (3, [2, 3, 0, 5, 0, 0, 2], [0, 1, 1, 0, -1, 0, 0, 0]),
        (1, [0], [1, 1]), (3, [2, 3, 0, 0, 0, 0, -1], [1] * 8), (1, [101], [1, 1]), (-1, [], []), (4, [], [1]),
        (0, [1] * 20, [1] * 20),
    )


if __name__ == "__main__":
    unittest.main()
