import random
import unittest
from math import gcd, isqrt

from fewtests.lifting import CHUNK, fraction_of, solution_of
from fewtests.residues import EXPONENTS, inverted, prime_at, step_of
from reference import product


def plain_fraction(value, modulus, bound):
    larger, smaller, before, now = modulus, value, 0, 1
    while smaller > bound:
        times = larger // smaller
        larger, smaller, before, now = smaller, larger - times * smaller, now, before - times * now
    return (-smaller, -now) if now < 0 else (smaller, now)


class FractionsTest(unittest.TestCase):
    def values(self, maker, modulus):
        bits = modulus.bit_length()
        yield 0
        yield 1
        yield modulus - 1
        yield maker.randrange(modulus)
        yield maker.getrandbits(maker.randint(1, bits - 1))
        # Quotients that are long, at once or later on.
        yield modulus // maker.randint(1, 10 ** 6)
        yield (modulus // maker.randint(1, 10 ** 6) + maker.getrandbits(bits // 2)) % modulus
        under, over = maker.getrandbits(bits // 2 - 2) | 1, maker.getrandbits(bits // 2 - 2)
        if gcd(under, modulus) == 1:
            yield over * pow(under, -1, modulus) % modulus

    def test_many_steps_at_once_are_the_same_steps(self):
        maker = random.Random(61)
        for _ in range(40):
            bits = maker.choice((90, CHUNK, 3 * CHUNK, 5 * CHUNK, 12 * CHUNK))
            modulus = maker.getrandbits(bits) | 1 << bits | 1
            for value in self.values(maker, modulus):
                for bound in (isqrt(modulus // 2), maker.getrandbits(maker.randint(2, bits)) + 1, 1):
                    self.assertEqual(fraction_of(value, modulus, bound), plain_fraction(value, modulus, bound))

    def test_golden_quotients(self):
        # All quotients are 1: the most steps that there can be.
        larger, smaller = 1, 1
        while larger.bit_length() < 8 * CHUNK:
            larger, smaller = larger + smaller, larger
        for value in (smaller, smaller - 1, smaller + 1, larger - smaller):
            bound = isqrt(larger // 2)
            self.assertEqual(fraction_of(value, larger, bound), plain_fraction(value, larger, bound))

    def test_answers_that_need_many_digits(self):
        maker = random.Random(62)
        prime = prime_at(0)
        for digits in (1, 150, 900, 2000):
            matrix = [[maker.randint(-10 ** digits, 10 ** digits) for _ in range(6)] for _ in range(6)]
            side = [maker.randint(-10 ** digits, 10 ** digits) for _ in range(6)]
            under, overs = solution_of(matrix, inverted(matrix, prime), side, prime)
            self.assertGreaterEqual(under, 1)
            self.assertEqual([product(row, overs) for row in matrix], [under * value for value in side])


class ResiduesTest(unittest.TestCase):
    def test_a_step_begins_at_the_first_value_other_than_0(self):
        self.assertEqual(step_of([3, 1, 5], 7), (0, (1, 5, 4)))
        self.assertEqual(step_of([0, 3, 0, 5], 7), (1, (0, 1, 0, 4)))
        self.assertEqual(step_of([0, 0, 6], 7), (2, (0, 0, 1)))
        self.assertEqual(step_of([5, 5], 7), (0, (1, 1)))

    def test_inverses_whose_rows_change_places(self):
        # 7 and -14 are 0 here, though they are not 0 as integers.
        self.assertEqual(inverted([[7, 1, 0], [0, -14, 1], [1, 0, 0]], 7), [[0, 0, 1], [1, 0, 0], [0, 1, 0]])
        self.assertEqual(inverted([[0, 2], [3, 0]], 7), [[0, 5], [4, 0]])
        self.assertEqual(inverted([[3]], 7), [[5]])
        self.assertEqual(inverted([], 7), [])

    def test_inverses_of_drawn_matrices(self):
        maker = random.Random(63)
        for _ in range(200):
            many = maker.randint(1, 6)
            # Upper and lower triangles with 1 between them, then rows and columns in any order: many zeros.
            upper = [[int(i == k) or (k > i) * maker.choice((0, 0, 7, 3)) for k in range(many)] for i in range(many)]
            lower = [[int(i == k) or (k < i) * maker.choice((0, 0, -7, 2)) for k in range(many)] for i in range(many)]
            matrix = [[product(row, column) for column in zip(*lower)] for row in upper]
            maker.shuffle(matrix)
            found = inverted(matrix, 7)
            both = [[product(row, column) % 7 for column in zip(*found)] for row in matrix]
            self.assertEqual(both, [[int(i == k) for k in range(many)] for i in range(many)])


class PrimesTest(unittest.TestCase):
    def test_they_are_the_known_ones(self):
        # No determinant of 15 shadows of words of 1,001 kinds may be divisible by all of them.
        known = (521, 607, 1279, 2203, 2281, 3217, 4253, 4423, 9689, 9941, 11213, 19937, 21701, 23209, 44497, 86243)
        self.assertEqual(EXPONENTS, known + (110503, 132049, 216091, 756839, 859433))
        self.assertGreater(sum(EXPONENTS), 15 * 24048 * 4.86)

    def test_the_first_ones_are_primes(self):
        # The test of Lucas and Lehmer.
        for place in range(8):
            prime = prime_at(place)
            value = 4
            for _ in range(EXPONENTS[place] - 2):
                value = (value * value - 2) % prime
            self.assertEqual(value, 0, place)


if __name__ == "__main__":
    unittest.main()
