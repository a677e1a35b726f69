import itertools
import math
import unittest

from compasses.reach import polygon
from tests.support import GREATEST, SMALLEST, Manners, check_steps, whole_numbers

IS_DRAWN = [1]
IS_NOT = [0]

MOST = 1000000000
FIVE = (3, 5, 17, 257, 65537)

# Primes that are a small number times a great power of 2 and 1 more, and one that is near 65537.
ALMOST = (97, 193, 769, 12289, 40961, 65539)

PRIMES_NEAR_THE_END = (999999937, 999999929, 999999893, 999999883, 999999797, 999999761, 999999757, 999999751)

# The greatest of them, 2^32 - 1, lies beyond the range.
ODD_ONES = sorted(math.prod(chosen) for size in range(6) for chosen in itertools.combinations(FIVE, size))


def times_powers_of_two(n):
    """Give n, 2 n, 4 n, .. to the greatest within the range."""
    return [n << j for j in range(31) if n << j <= MOST]


def is_power_of_two(n):
    return n & (n - 1) == 0


def count_of_units(n):
    """Count the numbers from 1 to n that have no divisor with n in common, by taking n apart."""
    count = n
    rest = n
    for divisor in itertools.chain((2,), itertools.count(3, 2)):
        if divisor * divisor > rest:
            break
        if rest % divisor == 0:
            count -= count // divisor
            while rest % divisor == 0:
                rest //= divisor
    if rest > 1:
        count -= count // rest
    return count


def expected(n):
    """The point's places are reached if the turns that give such a point too are 1, 2, 4, 8, .. in number."""
    return IS_DRAWN if is_power_of_two(count_of_units(n)) else IS_NOT


class PolygonCase(unittest.TestCase):
    def check(self, answer, *corners):
        for n in corners:
            # Quickly, too: within the range there are no more than 29 factors.
            self.assertEqual(check_steps(200, lambda: polygon(n)), answer, n)

    def check_all(self, answer, *corners):
        """Check the numbers of corners and what doubling makes of them: that can always be drawn too, or never."""
        for n in corners:
            self.assertLessEqual(n, MOST)
            self.check(answer, *times_powers_of_two(n))


class ByHand(PolygonCase):
    def test_one_and_two(self):
        self.check(IS_DRAWN, 1, 2)

    def test_the_first_hundred(self):
        drawn = (1, 2, 3, 4, 5, 6, 8, 10, 12, 15, 16, 17, 20, 24, 30, 32, 34, 40, 48, 51, 60, 64, 68, 80, 85, 96)
        self.check(IS_DRAWN, *drawn)
        self.check(IS_NOT, *(n for n in range(1, 101) if n not in drawn))

    def test_powers_of_two(self):
        powers = times_powers_of_two(1)
        self.assertEqual(powers[-1], 536870912)
        self.check(IS_DRAWN, *powers)
        self.check(IS_NOT, *(n - 1 for n in powers if n - 1 not in ODD_ONES + [0]))
        self.check(IS_NOT, *(n + 1 for n in powers if n + 1 not in FIVE + (2,)))

    def test_the_five_primes(self):
        self.check_all(IS_DRAWN, 3, 5, 17, 257, 65537)

    def test_products_of_different_ones(self):
        self.check_all(IS_DRAWN, 15, 51, 85, 255, 771, 1285, 3855, 4369, 13107, 21845, 65535, 196611, 327685, 983055)
        self.check_all(IS_DRAWN, 1114129, 3342387, 5570645, 16711935, 16843009, 50529027, 84215045, 252645135)
        self.check_all(IS_DRAWN, 286331153, 858993459)

    def test_the_greatest_that_can_be_drawn(self):
        self.check(IS_DRAWN, 805306368, 805318656, 808452096, 808464432, 855638016, 855651072, 858980352, 858993459)
        self.check(IS_DRAWN, *(times_powers_of_two(n)[-1] for n in ODD_ONES if n <= MOST))

    def test_other_odd_primes(self):
        self.check_all(IS_NOT, 7, 11, 13, 19, 23, 29, 31, 37, 41, 43, 47, 127, 251, 263, 8191, 65521, 65543, 131071)

    def test_squares_and_higher_powers(self):
        self.check_all(IS_NOT, 9, 25, 27, 81, 125, 289, 625, 4913, 66049, 16974593)
        for prime in FIVE[:4]:
            power = prime * prime
            while power <= MOST:
                self.check_all(IS_NOT, power)
                self.check_all(IS_NOT, *(power * n for n in ODD_ONES if n % prime > 0 and power * n <= MOST))
                power *= prime
        self.check_all(IS_NOT, 45, 75, 225, 153, 425, 867, 771 * 3, 771 * 257, 65537 * 9, 65537 * 25, 65537 * 289)

    def test_a_square_beyond_the_range(self):
        self.assertGreater(65537 * 65537, GREATEST)
        self.check([-2], 65537 * 65537)

    def test_primes_that_are_almost_such(self):
        for prime in ALMOST:
            self.check_all(IS_NOT, prime, prime * prime if prime * prime <= MOST else prime)
            self.check_all(IS_NOT, *(prime * n for n in ODD_ONES if prime * n <= MOST))
        self.check_all(IS_NOT, *(p * q for p, q in itertools.combinations(ALMOST, 2) if p * q <= MOST))

    def test_one_prime_too_many(self):
        for other in (7, 11, 13, 21, 35, 49, 91, 127):
            self.check_all(IS_NOT, *(other * n for n in ODD_ONES if other * n <= MOST))

    def test_near_the_end_of_the_range(self):
        self.check(IS_NOT, *PRIMES_NEAR_THE_END)
        self.check(IS_NOT, 1000000000, 999999999, 999999998, 999999996, 999950884)


class AgainstTheCountOfUnits(PolygonCase):
    def test_the_first_thousands(self):
        counts = list(range(8001))
        for prime in range(2, 8001):
            if counts[prime] == prime:
                for n in range(prime, 8001, prime):
                    counts[n] -= counts[n] // prime
        for n in range(1, 8001):
            self.check(IS_DRAWN if is_power_of_two(counts[n]) else IS_NOT, n)

    def test_the_first_hundreds_by_turns(self):
        # A turn by u of n parts, made two, four, eight, .. times as far, has to come back to where it was.
        for n in range(1, 601):
            units = [u for u in range(1, n + 1) if math.gcd(u, n) == 1]
            comes_back = all(pow(u, 2 ** 12, n) == 1 % n for u in units)
            self.check(IS_DRAWN if comes_back else IS_NOT, n)

    def test_the_counting_itself(self):
        for n in range(1, 400):
            self.assertEqual(count_of_units(n), sum(math.gcd(u, n) == 1 for u in range(1, n + 1)))

    def test_all_that_can_be_drawn_and_their_neighbours(self):
        drawn = sorted(n for odd in ODD_ONES for n in times_powers_of_two(odd))
        self.assertEqual(len(set(drawn)), 458)
        self.check(IS_DRAWN, *drawn)
        for n in drawn:
            for beside in (n - 1, n + 1):
                if beside > 0:
                    self.check(expected(beside), beside)

    def test_mixed_ones(self):
        numbers = whole_numbers(31)
        for number in itertools.islice(numbers, 150):
            self.check(expected(1 + number % MOST), 1 + number % MOST)

    def test_mixed_products(self):
        numbers = whole_numbers(32)
        factors = (2, 2, 3, 5, 7, 17, 97, 257, 65537, 769)
        seen = set()
        for turn in range(3000):
            n = 1
            for number in itertools.islice(numbers, 1 + turn % 6):
                if n * factors[number % 10] <= MOST:
                    n *= factors[number % 10]
            answer = expected(n)
            seen.add((n, answer[0]))
            self.check(answer, n)
        for answer in (0, 1):
            self.assertGreater(sum(kind == answer for n, kind in seen), 80)

    def test_the_last_ones(self):
        self.check(IS_NOT, *range(MOST - 1000, MOST + 1))
        for n in range(MOST - 40, MOST + 1):
            self.assertEqual(expected(n), IS_NOT, n)


class NotAllowed(PolygonCase):
    def test_too_few_corners(self):
        self.check([-2], 0, -1, -2, -3, -4, -5, -17, -1000, -65537, -999999999, -1000000000, -1000000001)

    def test_too_many_corners(self):
        self.check([-2], 1000000001, 1000000002, 1010580540, 1073741824, 1431655765, 2000000000)

    def test_very_far_off(self):
        self.check([-2], SMALLEST, SMALLEST + 1, GREATEST, GREATEST - 1)

    def test_the_edges_are_allowed(self):
        self.check(IS_DRAWN, 1)
        self.check(IS_NOT, 1000000000, 999999999)


class Quickness(PolygonCase):
    def test_great_inputs(self):
        self.check(IS_DRAWN, 536870912, 858993459, 855651072)
        self.check(IS_NOT, 3 ** 18, 31607 ** 2, MOST, *PRIMES_NEAR_THE_END)
        self.check([-2], GREATEST, SMALLEST)


class HowItIsCalled(Manners, unittest.TestCase):
    function = staticmethod(polygon)
    CALLS = tuple((n,) for n in (1, 2, 3, 7, 9, 17, 51, 65537, 196611, 999999937, MOST, 0, -1, MOST + 1, SMALLEST,
                                 GREATEST))


if __name__ == "__main__":
    unittest.main()
