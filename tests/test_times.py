import itertools
import unittest

from compasses.reach import compare, sign, times
from tests.support import (
    GREATEST, RADICANDS_AND_NUMBERS, SMALLEST, WRONG_NUMBERS_OF_ROOTS,
    Manners, expected_product, mixed_radicands, mixed_row, negated, square_by_hand, unit,
    whole_numbers,
)

REFUSED = [-2]


class TimesCase(unittest.TestCase):
    def check(self, k, d, x, y, answer):
        with self.subTest(k=k, d=d, x=x, y=y):
            self.assertEqual(times(k, d, x, y), answer)

    def check_parts(self, k, d, x, y, parts):
        """Check the parts of x times y, and of y times x."""
        self.check(k, d, x, y, [0] + parts)
        self.check(k, d, y, x, [0] + parts)

    def check_expected(self, k, d, x, y):
        answer = times(k, d, x, y)
        if answer != expected_product(k, d, x, y):
            self.fail(f"times({k}, {d}, {x}, {y}) is {answer}")
        return answer

    def check_refused(self, k, d, row, other):
        """Check that the row is refused as x, as y, and as both."""
        self.check(k, d, row, other, REFUSED)
        self.check(k, d, other, row, REFUSED)
        self.check(k, d, row, row, REFUSED)


class OrdinaryNumbers(TimesCase):
    def test_no_root(self):
        self.check_parts(0, [], [6], [7], [42])
        self.check_parts(0, [], [-6], [7], [-42])
        self.check_parts(0, [], [-6], [-7], [42])
        self.check_parts(0, [], [5], [1], [5])

    def test_one_root(self):
        self.check_parts(1, [2], [1, 1], [1, 1], [3, 2])
        self.check_parts(1, [2], [3, 2], [3, -2], [1, 0])
        self.check_parts(1, [5], [2, 3], [7, 11], [179, 43])
        self.check_parts(1, [5], [-2, 3], [7, -11], [-179, 43])
        self.check_parts(1, [7], [0, 1], [0, 1], [7, 0])

    def test_two_roots(self):
        # The parts go with 1, the first root, the second root, the product of both.
        d = [2, 3, 0]
        self.check_parts(2, d, [0, 1, 0, 0], [0, 0, 1, 0], [0, 0, 0, 1])
        self.check_parts(2, d, [0, 1, 0, 0], [0, 0, 0, 1], [0, 0, 2, 0])
        self.check_parts(2, d, [0, 0, 1, 0], [0, 0, 0, 1], [0, 3, 0, 0])
        self.check_parts(2, d, [0, 0, 0, 1], [0, 0, 0, 1], [6, 0, 0, 0])
        self.check_parts(2, d, [1, 1, 1, 1], [1, 1, 1, 1], [12, 8, 6, 4])
        self.check_parts(2, d, [1, 2, 3, 4], [5, 6, 7, 8], [284, 172, 102, 60])

    def test_the_second_radicand_has_the_first_root(self):
        d = [2, 5, 3]
        self.check_parts(2, d, [0, 0, 1, 0], [0, 0, 1, 0], [5, 3, 0, 0])
        self.check_parts(2, d, [0, 0, 1, 0], [0, 0, 0, 1], [6, 5, 0, 0])
        self.check_parts(2, d, [0, 0, 0, 1], [0, 0, 0, 1], [10, 6, 0, 0])
        self.check_parts(2, d, [1, 1, 1, 1], [1, 1, 1, 1], [30, 21, 6, 4])

    def test_three_roots(self):
        d = [2, 3, 0, 5, 0, 0, 0]
        squares = [1, 2, 3, 6, 5, 10, 15, 30]
        for place in range(8):
            self.check_parts(3, d, unit(3, place), unit(3, place), unit(3, 0, squares[place]))
        # Of two products of roots, those roots stay that are in one of them, and the others become their squares.
        for p, q in itertools.product(range(8), repeat=2):
            self.check_parts(3, d, unit(3, p), unit(3, q), unit(3, p ^ q, squares[p & q]))

    def test_the_third_radicand_has_the_roots_ahead_of_it(self):
        d = [2, 5, 3, 7, 11, 13, 17]
        self.check_parts(3, d, unit(3, 4), unit(3, 4), [7, 11, 13, 17, 0, 0, 0, 0])
        self.check_parts(3, d, unit(3, 4), unit(3, 5), [22, 7, 34, 13, 0, 0, 0, 0])
        self.check_parts(3, d, unit(3, 4), unit(3, 6), [167, 124, 7, 11, 0, 0, 0, 0])
        self.check_parts(3, d, unit(3, 4), unit(3, 7), [248, 167, 22, 7, 0, 0, 0, 0])
        self.check_parts(3, d, unit(3, 2), unit(3, 4), unit(3, 6))
        self.check_parts(3, d, unit(3, 2), unit(3, 6), [0, 0, 0, 0, 5, 3, 0, 0])
        self.check_parts(3, d, unit(3, 3), unit(3, 6), [0, 0, 0, 0, 6, 5, 0, 0])


class RadicandsOfAnyKind(TimesCase):
    def test_zero(self):
        self.check_parts(1, [0], [2, 3], [5, 7], [10, 29])
        self.check_parts(1, [0], [0, 3], [0, 7], [0, 0])
        self.check_parts(2, [0, 0, 0], [1, 2, 3, 4], [5, 6, 7, 8], [5, 16, 22, 60])
        self.check_parts(2, [2, 0, 0], [0, 0, 1, 0], [0, 0, 1, 0], [0, 0, 0, 0])
        self.check_parts(3, [0] * 7, [0] * 4 + [1] * 4, [0] * 4 + [1] * 4, [0] * 8)

    def test_below_zero(self):
        self.check_parts(1, [-1], [0, 1], [0, 1], [-1, 0])
        self.check_parts(1, [-1], [2, 3], [2, -3], [13, 0])
        self.check_parts(1, [-100], [1, 1], [1, 1], [-99, 2])
        self.check_parts(2, [-1, -1, 0], [0, 0, 0, 1], [0, 0, 0, 1], [1, 0, 0, 0])
        self.check_parts(2, [2, 1, -1], [0, 0, 1, 0], [0, 0, 1, 0], [1, -1, 0, 0])
        self.check_parts(2, [-2, 3, 5], [0, 0, 0, 1], [0, 0, 0, 1], [-6, -10, 0, 0])
        self.check_parts(3, [2, 3, 0, 0, 0, 0, -1], unit(3, 4), unit(3, 4), unit(3, 3, -1))

    def test_squares_are_not_made_simpler(self):
        self.check_parts(1, [4], [0, 1], [1, 0], [0, 1])
        self.check_parts(1, [4], [1, 1], [1, 1], [5, 2])
        self.check_parts(1, [4], [2, -1], [1, 0], [2, -1])
        self.check_parts(1, [4], [2, -1], [1, 1], [-2, 1])
        self.check_parts(2, [2, 2, 0], [0, 1, 0, 0], [0, 0, 1, 0], [0, 0, 0, 1])
        self.check_parts(2, [2, 8, 0], [0, 1, 0, 0], [0, 0, 1, 0], [0, 0, 0, 1])
        self.check_parts(2, [2, 6, 4], [1, 0, 1, 0], [1, 0, 1, 0], [7, 4, 2, 0])
        self.check_parts(2, [4, 9, 0], [1, 1, 1, 1], [1, 1, 1, 1], [50, 20, 10, 4])
        self.check_parts(3, [2, 3, 0, 6, 0, 0, 0], unit(3, 3), unit(3, 4), unit(3, 7))


class NumbersAtTheEdges(TimesCase):
    def test_all_parts_at_the_edge(self):
        # These are 1000 (1 + r) (1 + s) (1 + t), as far as the roots are there.
        self.check_parts(0, [], [1000], [1000], [1000000])
        self.check_parts(0, [], [1000], [-1000], [-1000000])
        self.check_parts(1, [100], [1000] * 2, [1000] * 2, [101000000, 2000000])
        self.check_parts(1, [-100], [1000] * 2, [1000] * 2, [-99000000, 2000000])
        self.check_parts(2, [100] * 3, [1000] * 4, [1000] * 4, [30201000000, 10302000000, 202000000, 4000000])
        self.check_parts(
            3, [100] * 7, [1000] * 8, [1000] * 8,
            [318090301000000, 12140602000000, 106100502000000, 4070904000000,
             60402000000, 20604000000, 404000000, 8000000],
        )

    def test_all_signs_at_the_edge(self):
        for k in (1, 2):
            edges = list(itertools.product((1000, -1000), repeat=2 ** k))
            for d in itertools.product((100, -100), repeat=2 ** k - 1):
                for x, y in itertools.product(edges, repeat=2):
                    self.check_expected(k, list(d), list(x), list(y))

    def test_some_signs_at_the_edge_with_three_roots(self):
        numbers = whole_numbers(11)
        for turn in range(200):
            d = [100 * (number % 2 * 2 - 1) for number in itertools.islice(numbers, 7)]
            x = [1000 * (number % 2 * 2 - 1) for number in itertools.islice(numbers, 8)]
            y = [1000 * (number % 2 * 2 - 1) for number in itertools.islice(numbers, 8)]
            self.check_expected(3, d, x, y)


class SpecialProducts(TimesCase):
    def test_zero(self):
        for k in range(4):
            none = [0] * 2 ** k
            for d in ([0] * (2 ** k - 1), [100] * (2 ** k - 1), [-7] * (2 ** k - 1)):
                self.check_parts(k, d, none, [1000] * 2 ** k, none)
                self.check_parts(k, d, none, list(none), none)

    def test_zero_of_numbers_that_have_other_parts(self):
        self.check_parts(1, [4], [2, 1], [2, -1], [0, 0])
        self.check_parts(2, [2, 8, 0], [0, 2, 1, 0], [0, 2, -1, 0], [0, 0, 0, 0])
        self.check_parts(2, [2, 6, 4], [2, 1, 1, 0], [2, 1, -1, 0], [0, 0, 0, 0])
        self.check_parts(3, [2, 3, 0, 6, 0, 0, 0], [0, 0, 0, 1, 1, 0, 0, 0], [0, 0, 0, 1, -1, 0, 0, 0], [0] * 8)

    def test_zero_in_some_parts(self):
        self.check_parts(1, [2], [3, 2], [3, -2], [1, 0])
        self.check_parts(1, [2], [2, 1], [-1, 1], [0, 1])
        self.check_parts(2, [2, 3, 0], [0, 1, 1, 0], [0, -1, 1, 0], [1, 0, 0, 0])
        self.check_parts(2, [2, 3, 0], [1, 1, 1, 1], [-1, 1, 1, -1], [-2, 0, 0, 0])
        self.check_parts(2, [2, 3, 0], [0, 1, 1, 0], [0, 1, 1, 0], [5, 0, 0, 2])

    def test_one(self):
        numbers = whole_numbers(12)
        for turn in range(200):
            k = turn % 4
            d = mixed_row(numbers, 2 ** k - 1, 100)
            x = mixed_row(numbers, 2 ** k, 1000)
            self.check_parts(k, d, unit(k, 0), x, x)
            self.check_parts(k, d, unit(k, 0, -1), x, negated(x))

    def test_squares(self):
        for p, q in ((2, 3), (2, 2), (4, 9), (-5, 7), (0, 6)):
            for s in itertools.product((-2, 0, 1, 3), repeat=4):
                self.check(2, [p, q, 0], list(s), list(s), [0] + square_by_hand(p, q, s))


class AgainstPolynomials(TimesCase):
    def test_all_small_ones_with_one_root(self):
        for d in range(-3, 5):
            for a, b, c, e in itertools.product(range(-2, 4), repeat=4):
                self.check_expected(1, [d], [a, b], [c, e])

    def test_all_products_of_single_parts(self):
        # The product is made up of these, so each part of x has to meet each part of y in its right place.
        for k in (1, 2, 3):
            d = [2, 3, 5, 7, 11, 13, 17][:2 ** k - 1]
            for p, q in itertools.product(range(2 ** k), repeat=2):
                self.check_expected(k, d, unit(k, p), unit(k, q))

    def test_mixed_ones(self):
        numbers = whole_numbers(13)
        for k in range(4):
            for farthest in (1, 4, 100):
                for turn in range(100):
                    d = mixed_row(numbers, 2 ** k - 1, farthest)
                    x = mixed_row(numbers, 2 ** k, (1, 10, 1000)[turn % 3])
                    y = mixed_row(numbers, 2 ** k, (1, 1000)[turn % 2])
                    self.assertEqual(self.check_expected(k, d, x, y), self.check_expected(k, d, y, x))

    def test_the_value_is_the_product_of_the_values(self):
        numbers = whole_numbers(14)
        for turn in range(300):
            k = turn % 4
            d = mixed_radicands(numbers, k, 20)
            x = mixed_row(numbers, 2 ** k, 4)
            y = mixed_row(numbers, 2 ** k, 4)
            if sign(k, d, x) != [-3]:
                parts = times(k, d, x, y)[1:]
                if max(abs(part) for part in parts) <= 1000:
                    side = (sign(k, d, x)[0] - 1) * (sign(k, d, y)[0] - 1)
                    self.assertEqual(compare(k, d, parts, [0] * 2 ** k), [side + 1])


class NotAllowed(TimesCase):
    def test_number_of_roots(self):
        for k in WRONG_NUMBERS_OF_ROOTS:
            for d, x in RADICANDS_AND_NUMBERS:
                self.check(k, d, x, list(x), REFUSED)

    def test_length_of_the_radicands(self):
        for k in range(4):
            for length in range(21):
                answer = [0] + [3] * 2 ** k if length == 2 ** k - 1 else REFUSED
                self.check(k, [0] * length, unit(k, 0), [3] * 2 ** k, answer)

    def test_lengths_of_the_numbers(self):
        for k in range(4):
            for length_of_x in range(21):
                for length_of_y in range(21):
                    fits = length_of_x == length_of_y == 2 ** k
                    answer = [0] * (1 + 2 ** k) if fits else REFUSED
                    self.check(k, [1] * (2 ** k - 1), [0] * length_of_x, [1] * length_of_y, answer)

    def test_range_of_the_radicands(self):
        for k in (1, 2, 3):
            for place in range(2 ** k - 1):
                for part in (101, -101, 1000, -1000, SMALLEST, GREATEST):
                    d = [1] * (2 ** k - 1)
                    d[place] = part
                    self.check(k, d, [1] * 2 ** k, [0] * 2 ** k, REFUSED)
                for part in (100, -100):
                    d = [1] * (2 ** k - 1)
                    d[place] = part
                    self.check(k, d, unit(k, 0), [1] * 2 ** k, [0] + [1] * 2 ** k)

    def test_range_of_the_numbers(self):
        for k in (0, 1, 2, 3):
            d = [1] * (2 ** k - 1)
            for place in range(2 ** k):
                for part in (1001, -1001, 2000, -2000, SMALLEST, GREATEST):
                    self.check_refused(k, d, unit(k, place, part), [0] * 2 ** k)
                for part in (1000, -1000):
                    self.check_parts(k, d, unit(k, place, part), unit(k, 0), unit(k, place, part))

    def test_one_right_and_the_other_not(self):
        self.check_refused(1, [2], [], [1, 1])
        self.check_refused(1, [2], [1], [1, 1])
        self.check_refused(1, [2], [1, 1, 1], [1, 1])
        self.check_refused(0, [], [], [1])
        self.check_refused(0, [], [1, 0], [1])
        self.check_refused(0, [], [1001], [0])

    def test_radicands_that_are_not_above_zero_do_not_hide_it(self):
        self.check_refused(1, [0], [1], [1, 1])
        self.check_refused(1, [-1], [0, 1001], [0, 0])
        self.check(1, [-101], [1, 1], [1, 1], REFUSED)
        self.check(0, [-1], [1], [1], REFUSED)
        self.check(2, [-1, -1], [1] * 4, [1] * 4, REFUSED)


class HowItIsCalled(Manners, unittest.TestCase):
    function = staticmethod(times)
    CALLS = (
        (0, [], [7], [6]), (0, [], [0], [0]), (0, [], [1], [1]), (1, [2], [3, -2], [-1, 1]),
        (1, [2], [1, 0], [5, 6]), (1, [0], [0, 1], [0, 1]), (2, [2, 3, 0], [0, 1, 0, 0], [0, 0, 1, 0]),
        (3, [100] * 7, [1000] * 8, [-1000] * 8), (3, [2, 3, 0, 0, 0, 0, -1], [1] * 8, [2] * 8),
        (1, [101], [1, 1], [0, 0]), (1, [2], [1, 1], [0, 1001]), (1, [2], [1], [1, 1]),
        (-1, [], [], []), (4, [], [1], [1]), (0, [1] * 20, [1] * 20, [1] * 20),
    )

    def length_of_answer(self, call):
        return 1 if times(*call) == REFUSED else 1 + 2 ** call[0]

    def test_one_list_may_stand_for_both_numbers(self):
        for k, d, x in ((0, [], [-9]), (1, [2], [3, -2]), (2, [2, 3, 1], [1, 2, 3, 4]), (3, [5] * 7, [-1000] * 8)):
            row = list(x)
            self.assertEqual(times(k, d, row, row), expected_product(k, d, x, x))
            self.assertEqual(row, x)


if __name__ == "__main__":
    unittest.main()
