import copy
import random
import unittest

from fewtests.lifting import solution_of
from fewtests.residues import inverse_of, inverted, prime_at
from fewtests.spans import held, no_span, taken
from fewtests.sums import apart, basis, dimension, factors, fine_apart, fine_factors, is_fine_sum, is_sum
from reference import is_sum_of, product, rank_of


class SumsCase(unittest.TestCase):
    def check_factors(self, found, rows, row):
        self.assertIsInstance(found, tuple)
        under, overs = found
        self.assertIsInstance(under, int)
        self.assertGreaterEqual(under, 1)
        self.assertIsInstance(overs, tuple)
        self.assertEqual(len(overs), len(rows))
        for column, value in enumerate(row):
            self.assertEqual(under * value, product(overs, [other[column] for other in rows]))

    def check_sum(self, rows, row):
        """Holds each answer against its paper; returns whether the row is a sum."""
        found, check = factors(rows, row), apart(rows, row)
        self.assertEqual(is_sum(rows, row), found is not None)
        self.assertEqual(found is None, check is not None)
        if found is None:
            self.assertIsInstance(check, tuple)
            self.assertEqual(len(check), len(row))
            self.assertEqual([product(check, other) for other in rows], [0] * len(rows))
            self.assertNotEqual(product(check, row), 0)
        else:
            self.check_factors(found, rows, row)
        return found is not None

    def check_fine(self, rows, row):
        """Holds each answer against its paper; returns whether the row is a fine sum."""
        found, check = fine_factors(rows, row), fine_apart(rows, row)
        self.assertEqual(is_fine_sum(rows, row), found is not None)
        self.assertEqual(found is None, check is not None)
        if found is None:
            self.assertIsInstance(check, tuple)
            check, power = check
            self.assertIsInstance(check, tuple)
            self.assertEqual(len(check), len(row))
            self.assertGreaterEqual(power, 1)
            self.assertEqual([product(check, other) % 29 ** power for other in rows], [0] * len(rows))
            self.assertNotEqual(product(check, row) % 29 ** power, 0)
        else:
            self.check_factors(found, rows, row)
            self.assertNotEqual(found[0] % 29, 0)
        return found is not None

    def told(self, rows, row):
        kept = copy.deepcopy((rows, row))
        answer = self.check_sum(rows, row), self.check_fine(rows, row)
        self.assertEqual((rows, row), kept)
        return answer


class SingleSumsTest(SumsCase):
    def test_example(self):
        rows = ((1, 841, 30), (1, 841, 59))
        self.assertIs(is_sum(rows, (1, 841, 31)), True)
        self.assertIs(is_fine_sum(rows, (1, 841, 31)), False)
        self.assertIs(is_fine_sum(((1, 841, 30), (1, 841, 31)), (1, 841, 59)), True)
        self.assertEqual(self.told(rows, (1, 841, 31)), (True, False))
        self.assertEqual(self.told(((1, 841, 30), (1, 841, 31)), (1, 841, 59)), (True, True))

    def test_no_rows(self):
        self.assertEqual(self.told((), (0, 0, 0)), (True, True))
        self.assertEqual(self.told((), (0, 7, 0)), (False, False))
        self.assertEqual(self.told((), (29,)), (False, False))
        self.assertEqual(factors((), (0,)), (1, ()))
        self.assertEqual(fine_factors((), (0,)), (1, ()))

    def test_rows_of_zeros(self):
        self.assertEqual(self.told(((0, 0),), (0, 0)), (True, True))
        self.assertEqual(self.told(((0, 0), (0, 0)), (0, 1)), (False, False))
        self.assertEqual(self.told(((0, 0), (0, 2)), (0, 1)), (True, True))
        self.assertEqual(self.told(((1, 2), (3, 4)), (0, 0)), (True, True))

    def test_sums_with_fractions_only(self):
        self.assertEqual(self.told(((2, 4),), (1, 2)), (True, True))
        self.assertEqual(self.told(((2, 0), (0, 3)), (1, 1)), (True, True))
        self.assertEqual(self.told(((4, 6), (2, 10)), (1, 1)), (True, True))
        self.assertEqual(self.told(((2, 4),), (1, 3)), (False, False))

    def test_denominators_and_29(self):
        for under in (1, 2, 28, 30, 31, 29 - 1, 58 - 1, 29 * 29 - 1):
            self.assertEqual(self.told(((under,),), (1,)), (True, True), under)
        for under in (29, 58, 29 * 29, -29, 29 ** 5 * 3):
            self.assertEqual(self.told(((under,),), (1,)), (True, False), under)
            self.assertEqual(self.told(((under,),), (under * 29,)), (True, True), under)
            self.assertEqual(self.told(((under, 1), (0, 1)), (1, 1)), (True, False), under)
        self.assertEqual(self.told(((29 ** 40,),), (29 ** 39,)), (True, False))
        self.assertEqual(self.told(((29 ** 40, 29 ** 50),), (29 ** 41, 29 ** 51)), (True, True))
        self.assertEqual(self.told(((58,), (87,)), (29,)), (True, True))
        self.assertEqual(self.told(((58,), (87,)), (1,)), (True, False))
        self.assertEqual(self.told(((29, 0), (0, 29), (1, 1)), (1, 30)), (True, True))
        self.assertEqual(self.told(((29, 0), (0, 29), (1, 1)), (1, 2)), (True, False))

    def test_29_divides_what_no_sum_is_told_by(self):
        self.assertEqual(self.told(((1, 0),), (0, 29 ** 30)), (False, False))
        self.assertEqual(self.told(((1, 29),), (1, 0)), (False, False))
        self.assertEqual(self.told(((1, 29 ** 60),), (1, 0)), (False, False))

    def test_arguments_by_name(self):
        rows, row = ((2, 0), (0, 29)), (1, 1)
        for call in (is_sum, is_fine_sum, factors, fine_factors, apart, fine_apart):
            self.assertEqual(call(rows=rows, row=row), call(rows, row))
        self.assertEqual(basis(rows=rows), (0, 1))
        self.assertEqual(dimension(rows=rows), 2)


class ManySumsTest(SumsCase):
    def value(self, maker):
        chance = maker.random()
        if chance < 0.4:
            return maker.choice((0, 0, 1, 1, -1, 2, 29, -29, 58, 30, 841, 29 ** 9))
        if chance < 0.8:
            return maker.randint(-3, 3)
        return maker.randint(-10 ** 25, 10 ** 25)

    def test_small_rows(self):
        maker = random.Random(11)
        seen = {}
        for _ in range(600):
            width = maker.randint(1, 5)
            rows = [tuple(self.value(maker) for _ in range(width)) for _ in range(maker.randint(0, 6))]
            rows = tuple(rows + [tuple(maker.choice((1, 29, -2)) * value for value in row) for row in rows[:1]])
            row = tuple(self.value(maker) for _ in range(width))
            if rows and maker.random() < 0.7:
                times = [maker.choice((0, 1, -1, 2, 29)) for _ in rows]
                row = tuple(product(times, column) for column in zip(*rows))
                common = maker.choice((1, 2, 29, 29 * 29))
                if not any(value % common for value in row):
                    row = tuple(value // common for value in row)
            answer = self.told(rows, row)
            self.assertEqual(answer[0], is_sum_of(rows, row), (rows, row))
            seen[answer] = seen.get(answer, 0) + 1
        self.assertEqual(set(seen), {(True, True), (True, False), (False, False)})
        self.assertGreater(min(seen.values()), 5)

    def test_fine_sums_of_known_factors(self):
        maker = random.Random(5)
        for _ in range(100):
            width = maker.randint(1, 4)
            rows = tuple(tuple(self.value(maker) for _ in range(width)) for _ in range(maker.randint(1, 5)))
            times = [self.value(maker) for _ in rows]
            self.assertEqual(self.told(rows, tuple(product(times, column) for column in zip(*rows))), (True, True))

    def test_many_digits(self):
        big = 10 ** 1999 + 7
        self.assertEqual(self.told(((big,),), (1,)), (True, True))
        self.assertEqual(self.told(((-big, big),), (big, -big)), (True, True))
        self.assertEqual(self.told(((big, 1), (1, big)), (-1, 10 ** 1999)), (True, True))
        self.assertEqual(self.told(((big, big + 1),), (big + 1, big)), (False, False))
        self.assertEqual(self.told(((29 ** 1367, 0), (0, 1)), (29 ** 1366, 5)), (True, False))
        maker = random.Random(8)
        rows = tuple(tuple(maker.randint(-big, big) for _ in range(6)) for _ in range(6))
        self.assertEqual(self.told(rows[:5], rows[5]), (False, False))
        self.assertTrue(self.told(rows + ((1,) * 6,), (0, 0, 0, 0, 0, 1))[0])

    def test_sixty_rows_of_forty_integers(self):
        maker = random.Random(4)
        some = [tuple(maker.randint(-99, 99) for _ in range(40)) for _ in range(20)]
        rows = list(some)
        while len(rows) < 60:
            times = [maker.randint(-1, 1) for _ in some]
            rows.insert(maker.randint(0, len(rows)), tuple(product(times, column) for column in zip(*some)))
        times = [maker.randint(-9, 9) for _ in some]
        self.assertEqual(self.told(tuple(rows), tuple(product(times, column) for column in zip(*some))), (True, True))
        self.assertEqual(self.told(tuple(rows), (1,) * 40), (False, False))
        self.assertEqual(dimension(tuple(rows)), 20)
        full = tuple(tuple(maker.randint(-99, 99) for _ in range(40)) for _ in range(60))
        self.assertTrue(self.told(full, (1,) * 40)[0])
        self.assertEqual(basis(full), tuple(range(40)))
        self.assertFalse(self.told(full[:39], full[39])[0])


class PrimesTest(SumsCase):
    """Integers that the primes divide by which the program works inside."""

    def test_rows_that_look_alike_modulo_primes(self):
        primes = [prime_at(place) for place in range(3)]
        for prime in primes + [primes[0] * primes[1], primes[0] * primes[1] * primes[2]]:
            self.assertEqual(self.told(((prime,),), (1,)), (True, True))
            self.assertEqual(self.told(((0, prime),), (1, 0)), (False, False))
            self.assertEqual(self.told(((1, 0), (1, prime)), (0, 1)), (True, True))
            self.assertEqual(self.told(((1, 0),), (1, prime)), (False, False))
            self.assertEqual(self.told(((1, 0, 0),), (1, 0, prime)), (False, False))
            self.assertEqual(self.told(((1, 0, 0),), (1, prime, 0)), (False, False))
            self.assertEqual(self.told(((1, 0, 0, 5),), (2, 0, 29 * prime, 10)), (False, False))
            self.assertEqual(self.told(((29, 0), (29, 29 * prime)), (29, 1)), (True, False))
            self.assertEqual(basis(((prime, 0), (1, 0), (1, prime), (0, 1))), (0, 2))
            self.assertEqual(basis(((1, 0), (1, prime), (0, 1))), (0, 1))
            self.assertEqual(basis(((0, prime), (0, 0), (prime, 1), (1, 1))), (0, 2))

    def test_other_known_primes(self):
        for prime in (2 ** 31 - 1, 2 ** 61 - 1, 10 ** 9 + 7, 998244353, 2 ** 127 - 1, 2 ** 255 - 19):
            self.assertEqual(self.told(((1, 0),), (1, prime)), (False, False))
            self.assertEqual(basis(((1, 0), (1, prime), (0, 1))), (0, 1))

    def test_spans_take_another_prime(self):
        prime = prime_at(0)
        grew, span = taken(no_span(), (prime, 0))
        self.assertTrue(grew)
        self.assertEqual(span.place, 1)
        self.assertIsNone(held(span, (0, 1)))
        self.assertIsNotNone(held(span, (1, 0)))


class BasisTest(SumsCase):
    def test_edges(self):
        self.assertEqual(basis(()), ())
        self.assertEqual(dimension(()), 0)
        self.assertEqual(basis(((0, 0), (0, 0))), ())
        self.assertEqual(basis(((0,), (5,), (7,))), (1,))
        self.assertEqual(basis(((1, 2), (1, 2), (2, 4), (0, 1), (5, 5))), (0, 3))

    def test_order_repeats_and_integers_before_rows(self):
        maker = random.Random(2)
        for _ in range(60):
            width = maker.randint(1, 5)
            rows = [tuple(maker.randint(-2, 2) for _ in range(width)) for _ in range(maker.randint(1, 6))]
            rows += [tuple(maker.choice((1, -3, 29)) * value for value in maker.choice(rows)) for _ in range(2)]
            maker.shuffle(rows)
            found = basis(tuple(rows))
            known = [at for at in range(len(rows)) if rank_of(rows[:at + 1]) > rank_of(rows[:at])]
            self.assertEqual(found, tuple(known))
            self.assertEqual(dimension(tuple(rows)), len(known))
            self.assertEqual(dimension(tuple(rows[::-1])), len(known))
            self.assertEqual(dimension(tuple(rows + rows)), len(known))
            self.assertEqual(basis(tuple(rows + rows)), found)
            self.assertEqual(basis(tuple(tuple(-6 * value for value in row) for row in rows)), found)


class InsideTest(unittest.TestCase):
    def test_inverses(self):
        for modulus in (29, 29 ** 9, prime_at(0)):
            for value in (1, 2, 28, 30, 10 ** 50 + 1, modulus - 1, -1):
                self.assertEqual(value * inverse_of(value, modulus) % modulus, 1, (value, modulus))

    def test_solutions_with_long_fractions(self):
        maker = random.Random(6)
        prime = prime_at(0)
        for digits in (1, 30, 200, 700):
            matrix = [[maker.randint(-10 ** digits, 10 ** digits) for _ in range(4)] for _ in range(4)]
            side = [maker.randint(-10 ** digits, 10 ** digits) for _ in range(4)]
            under, overs = solution_of(matrix, inverted(matrix, prime), side, prime)
            self.assertGreaterEqual(under, 1)
            self.assertEqual([product(row, overs) for row in matrix], [under * value for value in side])


if __name__ == "__main__":
    unittest.main()
