import itertools
import unittest

from compasses.reach import compare, sign
from tests.support import (
    GREATEST, RADICANDS_AND_NUMBERS, SMALLEST, WRONG_NUMBERS_OF_ROOTS,
    Manners, expected_side, mixed_radicands, mixed_row, negated, square_by_hand, whole_numbers,
)

X_IS_GREATER = [2]
THE_SAME = [1]
Y_IS_GREATER = [0]


def split(difference):
    """Give an x and a y that are that far from one another, each within the range where that can be."""
    x = [part // 2 for part in difference]
    return x, [half - part for half, part in zip(x, difference)]


class CompareCase(unittest.TestCase):
    def check(self, k, d, x, y, answer):
        with self.subTest(k=k, d=d, x=x, y=y):
            self.assertEqual(compare(k, d, x, y), answer)

    def check_both_ways(self, k, d, x, y, answer):
        """Check x and y, and the same with x and y in one another's place."""
        self.check(k, d, x, y, answer)
        self.check(k, d, y, x, [2 - answer[0]])

    def check_refused(self, k, d, row, other, refusal):
        """Check that the row is refused as x, as y, and as both."""
        self.check(k, d, row, other, refusal)
        self.check(k, d, other, row, refusal)
        self.check(k, d, row, row, refusal)


class OrdinaryNumbers(CompareCase):
    def test_no_root(self):
        self.check_both_ways(0, [], [3], [2], X_IS_GREATER)
        self.check_both_ways(0, [], [-2], [-3], X_IS_GREATER)
        self.check_both_ways(0, [], [1], [-1], X_IS_GREATER)
        self.check(0, [], [5], [5], THE_SAME)
        self.check(0, [], [0], [0], THE_SAME)
        self.check(0, [], [-5], [-5], THE_SAME)

    def test_one_root(self):
        self.check_both_ways(1, [2], [0, 1], [1, 0], X_IS_GREATER)
        self.check_both_ways(1, [2], [0, 2], [3, 0], Y_IS_GREATER)
        self.check_both_ways(1, [2], [7, 0], [0, 5], Y_IS_GREATER)
        self.check_both_ways(1, [3], [2, 1], [1, 2], Y_IS_GREATER)
        self.check_both_ways(1, [3], [5, -4], [-5, 2], Y_IS_GREATER)
        self.check(1, [2], [-3, 4], [-3, 4], THE_SAME)

    def test_two_roots(self):
        self.check_both_ways(2, [2, 3, 0], [0, 0, 1, 0], [0, 1, 0, 0], X_IS_GREATER)
        self.check_both_ways(2, [2, 3, 0], [0, 1, 1, 0], [0, 0, 0, 1], X_IS_GREATER)
        self.check_both_ways(2, [2, 3, 0], [5, 0, 0, 0], [0, 0, 0, 2], X_IS_GREATER)
        self.check_both_ways(2, [2, 0, 1], [0, 0, 1, 0], [0, 1, 0, 0], Y_IS_GREATER)
        self.check_both_ways(2, [2, 1, 2], [0, 0, 1, 0], [2, 0, 0, 0], Y_IS_GREATER)
        self.check_both_ways(2, [2, 1, 3], [0, 0, 1, 0], [2, 0, 0, 0], X_IS_GREATER)
        self.check(2, [2, 3, 0], [1, -2, 3, -4], [1, -2, 3, -4], THE_SAME)

    def test_three_roots(self):
        d = [2, 3, 0, 5, 0, 0, 0]
        for place in range(8):
            one = [0] * 8
            one[place] = 1
            self.check_both_ways(3, d, one, [0] * 8, X_IS_GREATER)
        self.check_both_ways(3, d, [0, 1, 1, 0, 0, 0, 0, 0], [0, 0, 0, 0, 1, 0, 0, 0], X_IS_GREATER)
        self.check_both_ways(3, d, [0, 1, 0, 0, 0, 0, 0, 0], [0, 0, 0, 0, 1, 0, 0, 0], Y_IS_GREATER)
        self.check_both_ways(3, d, [0, 0, 0, 0, 2, 0, 0, 0], [0, 0, 0, 0, 0, 0, 0, 1], Y_IS_GREATER)
        self.check_both_ways(3, [2, 3, 0, 1, 1, 1, 1], [0, 0, 0, 0, 2, 0, 0, 0], [5] + [0] * 7, X_IS_GREATER)
        self.check_both_ways(3, [2, 3, 0, 1, 1, 1, 1], [0, 0, 0, 0, 2, 0, 0, 0], [6] + [0] * 7, Y_IS_GREATER)
        self.check(3, d, [1, -2, 3, -4, 5, -6, 7, -8], [1, -2, 3, -4, 5, -6, 7, -8], THE_SAME)


class TheSameByOtherParts(CompareCase):
    def check_same(self, k, d, x, y):
        self.check_both_ways(k, d, x, y, THE_SAME)

    def test_one_root(self):
        self.check_same(1, [4], [2, 0], [0, 1])
        self.check_same(1, [4], [7, -3], [-1, 1])
        self.check_same(1, [1], [1000, -1000], [0, 0])
        self.check_same(1, [100], [1000, 0], [0, 100])

    def test_two_roots(self):
        self.check_same(2, [2, 2, 0], [0, 1, 0, 0], [0, 0, 1, 0])
        self.check_same(2, [2, 8, 0], [4, 0, 0, 0], [0, 0, 0, 1])
        self.check_same(2, [2, 6, 4], [2, 1, 0, 0], [0, 0, 1, 0])
        self.check_same(2, [2, 99, -70], [-7, 5, 0, 0], [0, 0, 1, 0])
        self.check_both_ways(2, [2, 99, -70], [7, -5, 0, 0], [0, 0, 1, 0], Y_IS_GREATER)

    def test_three_roots(self):
        self.check_same(3, [2, 3, 0, 5, 0, 0, 2], [0, 1, 1, 0, 0, 0, 0, 0], [0, 0, 0, 0, 1, 0, 0, 0])
        self.check_same(3, [2, 3, 0, 6, 0, 0, 0], [0, 0, 0, 1, 0, 0, 0, 0], [0, 0, 0, 0, 1, 0, 0, 0])
        self.check_same(3, [2, 3, 0, 6, 0, 0, 0], [6, 0, 0, 0, 0, 0, 0, 0], [0, 0, 0, 0, 0, 0, 0, 1])
        self.check_same(3, [4, 9, 0, 25, 0, 0, 0], [30, 1, 0, 0, 0, 0, 0, 0], [2, 0, 0, 0, 0, 0, 0, 1])


class AtTheEdges(CompareCase):
    def test_one_part_at_either_edge(self):
        for k in (0, 1, 2, 3):
            for place in range(2 ** k):
                x = [0] * 2 ** k
                x[place] = 1000
                self.check_both_ways(k, [100] * (2 ** k - 1), x, negated(x), X_IS_GREATER)
                self.check(k, [100] * (2 ** k - 1), x, list(x), THE_SAME)

    def test_all_parts_at_the_edges(self):
        self.check_both_ways(1, [2], [1000, -1000], [-1000, 1000], Y_IS_GREATER)
        self.check_both_ways(1, [1], [1000, -1000], [-1000, 1000], THE_SAME)
        self.check_both_ways(2, [2, 3, 0], [1000, 1000, -1000, -1000], [-1000, -1000, 1000, 1000], Y_IS_GREATER)
        self.check_both_ways(3, [1, 1, 0, 1, 0, 0, 0], [1000, -1000] * 4, [-1000, 1000] * 4, THE_SAME)
        self.check_both_ways(3, [2, 3, 0, 5, 0, 0, 0], [1000] * 8, [-1000] * 8, X_IS_GREATER)

    def test_parts_far_from_one_another_and_numbers_near(self):
        for k, d, difference, answer in (
            (1, [2], [1393, -985], Y_IS_GREATER),
            (1, [99], [1990, -200], X_IS_GREATER),
            (2, [2, 3, 0], [910, 403, 383, -875], Y_IS_GREATER),
            (2, [7, 5, 3], [446, -17, -1228, 422], X_IS_GREATER),
            (3, [2, 2, 1, 2, 0, 1, 0], [-1150, -1925, 1394, 1211, -271, -1101, 317, 111], Y_IS_GREATER),
            (3, [2, 3, 0, 5, 0, 0, 0], [-616, -417, -683, 1038, 1396, -1461, 268, 56], Y_IS_GREATER),
            (3, [97, -88, 9, 3, -1, 2, 5], [-24, 201, 291, 1716, 683, -677, 1620, 254], X_IS_GREATER),
        ):
            x, y = split(difference)
            self.check_both_ways(k, d, x, y, answer)


class AgainstDecimalDigits(CompareCase):
    def check_expected(self, k, d, x, y):
        answer = compare(k, d, x, y)
        if answer != expected_side(k, d, [p - q for p, q in zip(x, y)]):
            self.fail(f"compare({k}, {d}, {x}, {y}) is {answer}")
        return answer[0]

    def test_all_small_ones_with_one_root(self):
        for d in (-1, 0, 1, 2, 3, 4):
            for a, b, c, e in itertools.product(range(-3, 4), repeat=4):
                self.check_expected(1, [d], [a, b], [c, e])

    def test_mixed_ones(self):
        numbers = whole_numbers(2)
        seen = {}
        for k in (0, 1, 2, 3):
            for farthest in (4, 10, 100):
                for turn in range(150):
                    d = mixed_radicands(numbers, k, farthest)
                    x = mixed_row(numbers, 2 ** k, (1, 1000)[turn % 2])
                    y = mixed_row(numbers, 2 ** k, (1, 1000)[turn // 2 % 2])
                    seen[k, self.check_expected(k, d, x, y)] = True
        for k in (1, 2, 3):
            for answer in (-3, 0, 2):
                self.assertIn((k, answer), seen)

    def test_third_roots_of_squares(self):
        seen = {}
        for p, q in ((2, 3), (2, 8), (4, 1)):
            for s in itertools.product((-1, 0, 1, 2), repeat=4):
                d = [p, q, 0] + square_by_hand(p, q, s)
                if max(d) <= 100:
                    for factor in (1, -1):
                        x = list(s) + [500, 0, 0, 0]
                        y = [0, 0, 0, 0] + [500 + factor, 0, 0, 0]
                        seen[self.check_expected(3, d, x, y)] = True
        self.assertEqual(sorted(seen), [-3, 0, 1, 2])

    def test_sign_of_a_number_is_how_it_compares_with_zero(self):
        numbers = whole_numbers(3)
        for turn in range(300):
            k = turn % 4
            d = mixed_radicands(numbers, k, 20)
            x = mixed_row(numbers, 2 ** k, 5)
            self.assertEqual(compare(k, d, x, [0] * 2 ** k), sign(k, d, x))


class NotAllowed(CompareCase):
    def test_number_of_roots(self):
        for k in WRONG_NUMBERS_OF_ROOTS:
            for d, x in RADICANDS_AND_NUMBERS:
                self.check(k, d, x, list(x), [-2])

    def test_length_of_the_radicands(self):
        for k in range(4):
            for length in range(21):
                answer = THE_SAME if length == 2 ** k - 1 else [-2]
                self.check(k, [1] * length, [1] * 2 ** k, [1] * 2 ** k, answer)

    def test_lengths_of_the_numbers(self):
        for k in range(4):
            for length_of_x in range(21):
                for length_of_y in range(21):
                    fits = length_of_x == length_of_y == 2 ** k
                    answer = X_IS_GREATER if fits else [-2]
                    self.check(k, [1] * (2 ** k - 1), [2] * length_of_x, [1] * length_of_y, answer)

    def test_range_of_the_radicands(self):
        for k in (1, 2, 3):
            for place in range(2 ** k - 1):
                for part in (101, -101, 1000, -1000, SMALLEST, GREATEST):
                    d = [1] * (2 ** k - 1)
                    d[place] = part
                    self.check(k, d, [1] * 2 ** k, [0] * 2 ** k, [-2])
        self.check(1, [100], [0, 1], [10, 0], THE_SAME)
        self.check(2, [4, -100, 100], [0, 0, 1, 0], [10, 0, 0, 0], THE_SAME)
        self.check(3, [4, 9, 0, -100, 100, -100, 100], [0, 0, 0, 0, 1, 0, 0, 0], [20] + [0] * 7, THE_SAME)

    def test_range_of_the_numbers(self):
        for k in (0, 1, 2, 3):
            for place in range(2 ** k):
                for part in (1001, -1001, 2000, -2000, SMALLEST, GREATEST):
                    row = [0] * 2 ** k
                    row[place] = part
                    self.check_refused(k, [1] * (2 ** k - 1), row, [0] * 2 ** k, [-2])

    def test_numbers_beyond_the_range_are_refused_however_near_they_are(self):
        self.check(0, [], [1001], [1000], [-2])
        self.check(0, [], [-1000], [-1001], [-2])
        self.check(1, [2], [0, 1001], [0, 1001], [-2])


class RadicandsNotAboveZero(CompareCase):
    def check_no_root(self, k, d):
        one = [1] + [0] * (2 ** k - 1)
        none = [0] * 2 ** k
        self.check_refused(k, d, one, none, [-3])
        self.check(k, d, none, list(none), [-3])

    def test_first(self):
        for part in (0, -1, -2, -100):
            self.check_no_root(1, [part])
            self.check_no_root(2, [part, 1, 0])
            self.check_no_root(3, [part, 1, 0, 1, 0, 0, 0])

    def test_second(self):
        for d in ([2, 0, 0], [2, -1, 0], [2, 0, -1], [2, 41, -29], [2, -99, 70], [4, 2, -1], [4, -2, 1]):
            self.check_no_root(2, d)
            self.check_no_root(3, d + [1, 0, 0, 0])

    def test_third(self):
        for d in ([2, 3, 0, 0, 0, 0, 0], [2, 3, 0, -1, 0, 0, 0], [2, 3, 0, 0, 0, 0, -1], [2, 3, 0, 0, 1, -1, 0],
                  [2, 3, 0, -7, -77, 16, 36], [2, 2, 0, 0, 1, -1, 0], [2, 6, 4, 2, 1, -1, 0],
                  [2, 99, -70, 7, -5, 1, 0], [4, 9, 0, 6, 0, 0, -1]):
            self.check_no_root(3, d)

    def test_what_is_not_allowed_is_looked_at_first(self):
        self.check_refused(1, [0], [1], [1, 1], [-2])
        self.check_refused(1, [0], [], [1, 1], [-2])
        self.check_refused(1, [0], [1, 1, 1], [1, 1], [-2])
        self.check_refused(1, [-1], [1001, 0], [0, 0], [-2])
        self.check_refused(1, [-1], [0, -1001], [0, 0], [-2])
        self.check_refused(2, [2, 1, -1], [1, 0, 0, 1001], [0] * 4, [-2])
        self.check_refused(3, [2, 3, 0, 0, 0, 0, -1], [0] * 7 + [1001], [0] * 8, [-2])
        self.check(1, [-101], [1, 1], [0, 0], [-2])
        self.check(0, [-1], [1], [0], [-2])
        self.check(4, [-1] * 15, [1] * 16, [0] * 16, [-2])
        self.check(2, [-1, 1], [1, 0, 0, 0], [0] * 4, [-2])
        self.check(2, [-1, 101, 0], [1, 0, 0, 0], [0] * 4, [-2])


class HowItIsCalled(Manners, unittest.TestCase):
    function = staticmethod(compare)
    CALLS = (
        (0, [], [7], [6]), (0, [], [0], [0]), (1, [2], [3, -2], [-1, 1]), (1, [4], [2, -1], [0, 0]),
        (2, [2, 3, 0], [0, 1, 0, 0], [0, 0, 1, 0]),
        (3, [2, 3, 0, 5, 0, 0, 0], [1000] * 8, [-1000] * 8),
        (3, [2, 3, 0, 5, 0, 0, 2], [0, 1, 1, 0, 0, 0, 0, 0], [0, 0, 0, 0, 1, 0, 0, 0]),
        (1, [0], [1, 1], [1, 0]), (3, [2, 3, 0, 0, 0, 0, -1], [1] * 8, [2] * 8), (1, [101], [1, 1], [0, 0]),
        (1, [2], [1, 1], [0, 1001]), (-1, [], [], []), (4, [], [1], [1]), (0, [1] * 20, [1] * 20, [1] * 20),
    )

    def test_one_list_may_stand_for_both_numbers(self):
        row = [3, -2]
        self.assertEqual(compare(1, [2], row, row), THE_SAME)
        self.assertEqual(row, [3, -2])


if __name__ == "__main__":
    unittest.main()
