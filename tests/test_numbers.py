"""[1.3], [1.4], [0.1], [0.4], [0.5]: integers."""

import unittest
from math import gcd

from levelroads.base import numbers
from levelroads.base.numbers import (
    common_divisor, count_units, divisor_sum, divisors, is_integer, is_level, is_name, is_prime, prime_powers,
    roots_modulo, unit_inverse,
)
from levelroads.errors import InvalidCount, InvalidOperation, TooMany
from support import HUNDRED, NO_INTEGERS, SIXTY, SIXTY_ONE, Case

BILLION = 10 ** 9


class Examples(Case):
    def test_examples(self):
        self.same(
            [is_prime(2), is_prime(91), is_prime(1), is_level(100), is_level(0), is_level(True), is_name("abcdefgh"),
             is_name("")],
            [True, False, False, True, False, False, True, False])
        self.same(
            [divisors(12), divisor_sum(12), divisor_sum(12, without=2), prime_powers(360),
             common_divisor((12, -18, 0)), common_divisor(())],
            [(1, 2, 3, 4, 6, 12), 28, 4, {2: 3, 3: 2, 5: 1}, 6, 0])
        self.same(
            [count_units(12), count_units(1), unit_inverse(7, 3), unit_inverse(1, 5), roots_modulo(10, 0, 1),
             roots_modulo(7, 1, 1), roots_modulo(1, 5, 3), roots_modulo(4, 0, 1)],
            [4, 1, 5, 0, (3, 7), (2, 4), (0,), ()])
        self.refused_with(InvalidCount, "value", 4, unit_inverse, 6, 4)

    def test_constants(self):
        self.same([numbers.MAX_LEVEL, numbers.MAX_NAME, numbers.MAX_FACTORED, numbers.MAX_MODULUS],
                  [100, 8, 1000000000, 10000])


class Judging(Case):
    def test_integers(self):
        for value in (0, 1, -1, 2, -100, SIXTY, -SIXTY):
            self.assertIs(is_integer(value), True)
        for value in NO_INTEGERS:
            self.assertIs(is_integer(value), False, value)

    def test_names(self):
        for value in ("a", "z", "abc", "zzzzzzzz", "aaaaaaa"):
            self.assertIs(is_name(value), True)
        near = ("", "abcdefghi", "A", "aB", "a1", "1", "a b", " ", "a\n", "a-b", "`", "{", "a_b", "~", ("a",), ["a"])
        for value in near + (None, True, 1, 0, (), [], {}, {"a": 1}):
            self.assertIs(is_name(value), False, value)
        for code in range(127):
            self.assertIs(is_name("a" + chr(code)), "a" <= chr(code) <= "z")

    def test_levels(self):
        for value in range(-3, 110):
            self.assertIs(is_level(value), 1 <= value <= 100)
        for value in NO_INTEGERS + (SIXTY, -SIXTY):
            self.assertIs(is_level(value), False, value)

    def test_primes(self):
        told = [number for number in range(-10, 3000) if is_prime(number)]
        self.assertEqual(told, [n for n in range(2, 3000) if all(n % k for k in range(2, int(n ** 0.5) + 1))])
        for value in (999999937, 999999929, 31607, 2):
            self.assertIs(is_prime(value), True)
        for value in (BILLION, BILLION + 7, BILLION + 9, 31607 * 31607, 31607 * 31627, 0, 1, -2, SIXTY, 2 ** 61 - 1):
            self.assertIs(is_prime(value), False)
        for value in NO_INTEGERS:
            self.assertIs(is_prime(value), False)


class Divisors(Case):
    def test_common_divisor(self):
        self.same([common_divisor((0,)), common_divisor((0, 0)), common_divisor((-7,)), common_divisor((1, SIXTY)),
                   common_divisor((4, 6)), common_divisor((-4, -6, 9)), common_divisor((0, -5))],
                  [0, 0, 7, 1, 2, 1, 5])
        self.assertEqual(common_divisor((SIXTY, -SIXTY)), SIXTY)
        for one in range(-12, 13):
            for other in range(-12, 13):
                common = [k for k in range(1, 13) if one % k == 0 and other % k == 0]
                self.assertEqual(common_divisor((one, other)), max(common) if one or other else 0)

    def test_common_divisor_of_other_values(self):
        for value in NO_INTEGERS:
            if value != ():
                if value not in ((1,), (1, 2)):
                    self.refused(InvalidOperation, common_divisor, value)
                self.refused(InvalidOperation, common_divisor, (1, value))
                self.refused(InvalidOperation, common_divisor, (value, 0))
        self.refused(InvalidOperation, common_divisor, 5)
        self.refused(InvalidOperation, common_divisor, [4, 6])

    def test_divisors(self):
        for number in range(1, 400):
            wanted = tuple(k for k in range(1, number + 1) if number % k == 0)
            self.same(divisors(number), wanted)
            self.assertEqual(divisor_sum(number), sum(wanted))
            for without in (1, 2, 6, 35, number, SIXTY):
                self.assertEqual(divisor_sum(number, without=without), sum(k for k in wanted if gcd(k, without) == 1))

    def test_great_divisors(self):
        self.same(divisors(999999937), (1, 999999937))
        self.assertEqual(len(divisors(735134400)), 1344)
        self.assertEqual(divisors(735134400), tuple(sorted(divisors(735134400))))
        self.assertEqual(len(divisors(BILLION)), 100)
        self.assertEqual(divisor_sum(BILLION), (2 ** 10 - 1) * (5 ** 10 - 1) // 4)

    def test_prime_powers(self):
        self.same([prime_powers(1), prime_powers(2), prime_powers(BILLION), prime_powers(999999937)],
                  [{}, {2: 1}, {2: 9, 5: 9}, {999999937: 1}])
        self.same([prime_powers(31607 * 31607), prime_powers(31607 * 31627), prime_powers(223092870)],
                  [{31607: 2}, {31607: 1, 31627: 1}, {p: 1 for p in (2, 3, 5, 7, 11, 13, 17, 19, 23)}])
        for number in range(1, 500):
            powers = prime_powers(number)
            self.assertEqual(list(powers), sorted(powers))
            product = 1
            for prime, many in powers.items():
                self.assertTrue(is_prime(prime) and many >= 1)
                product *= prime ** many
            self.assertEqual(product, number)

    def test_new_dict_each_time(self):
        prime_powers(12)[2] = 7
        self.same(prime_powers(12), {2: 2, 3: 1})

    def test_other_values(self):
        for call in (divisors, prime_powers, divisor_sum):
            for value in NO_INTEGERS + (0, -1, -12, -SIXTY):
                self.refused_with(InvalidCount, "value", value, call, value)
            for value in (BILLION + 1, SIXTY):
                self.refused_with(TooMany, "limit", BILLION, call, value)

    def test_order_of_errors(self):
        for value in NO_INTEGERS + (0, -1):
            self.refused_with(InvalidCount, "value", value, lambda: divisor_sum(12, without=value))
            self.refused_with(InvalidCount, "value", value, lambda: divisor_sum(BILLION + 1, without=value))
        self.refused_with(InvalidCount, "value", 0, lambda: divisor_sum(0, without=-1))
        self.refused_with(TooMany, "limit", BILLION, lambda: divisor_sum(BILLION + 1, without=1))
        self.assertEqual(divisor_sum(12, without=SIXTY), 7)


class Modulo(Case):
    def test_units(self):
        for modulus in range(1, 130):
            units = [k for k in range(modulus) if gcd(k, modulus) == 1]
            self.assertEqual(count_units(modulus), len(units))
            for number in range(-5, modulus + 3):
                if gcd(number, modulus) == 1:
                    inverse = unit_inverse(modulus, number)
                    self.assertIn(inverse, units)
                    self.assertEqual((inverse * number - 1) % modulus, 0)
                else:
                    self.refused_with(InvalidCount, "value", number, unit_inverse, modulus, number)

    def test_edges(self):
        self.same([count_units(10000), count_units(9973), count_units(2)], [4000, 9972, 1])
        self.same([unit_inverse(1, 0), unit_inverse(1, 1), unit_inverse(1, -1), unit_inverse(1, SIXTY)], [0, 0, 0, 0])
        self.same([unit_inverse(2, -1), unit_inverse(10000, 9999), unit_inverse(10000, -1)], [1, 9999, 9999])
        self.assertEqual(unit_inverse(17, SIXTY) * SIXTY % 17, 1)
        self.refused_with(InvalidCount, "value", 0, unit_inverse, 2, 0)
        self.refused_with(InvalidCount, "value", SIXTY, unit_inverse, 9, SIXTY)

    def test_other_values(self):
        for value in NO_INTEGERS + (0, -1, 10001, SIXTY):
            self.refused_with(InvalidCount, "value", value, count_units, value)
            self.refused_with(InvalidCount, "value", value, unit_inverse, value, 1)
            self.refused_with(InvalidCount, "value", value, unit_inverse, value, "x")
            self.refused_with(InvalidCount, "value", value, roots_modulo, value, 1, 1)
            self.refused_with(InvalidCount, "value", value, roots_modulo, value, "x", None)
        for value in NO_INTEGERS:
            self.refused_with(InvalidCount, "value", value, unit_inverse, 7, value)
            self.refused_with(InvalidCount, "value", value, unit_inverse, 1, value)
            self.refused_with(InvalidCount, "value", value, roots_modulo, 7, value, 1)
            self.refused_with(InvalidCount, "value", value, roots_modulo, 7, 1, value)
            self.refused_with(InvalidCount, "value", value, roots_modulo, 7, value, "y")

    def test_roots(self):
        for modulus in range(1, 31):
            for linear in range(-4, 5):
                for constant in range(-4, 5):
                    wanted = [x for x in range(modulus) if (x * x + linear * x + constant) % modulus == 0]
                    self.same(roots_modulo(modulus, linear, constant), tuple(wanted))

    def test_great_roots(self):
        self.same(roots_modulo(10000, 0, 0), tuple(range(0, 10000, 100)))
        self.same(roots_modulo(10000, -1, 0), (0, 1, 625, 9376))
        self.same(roots_modulo(11, -SIXTY, SIXTY), roots_modulo(11, -SIXTY % 11, SIXTY % 11))
        self.same(roots_modulo(1, SIXTY, -SIXTY), (0,))


class Statements(Case):
    """[1.4]"""

    def test_sums_of_units(self):
        for number in list(range(1, 700)) + [7560, 9973, 9999, 10000]:
            self.assertEqual(sum(count_units(d) for d in divisors(number)), number)

    def test_products(self):
        for one in range(1, 40):
            for other in range(1, 40):
                if gcd(one, other) == 1:
                    self.assertEqual(divisor_sum(one * other), divisor_sum(one) * divisor_sum(other))
                    for linear, constant in ((0, 1), (1, 1), (0, -1), (3, -4), (-2, 7)):
                        roots = [len(roots_modulo(m, linear, constant)) for m in (one * other, one, other)]
                        self.assertEqual(roots[0], roots[1] * roots[2])

    def test_a_hundred_digits(self):
        self.refused_with(InvalidCount, "value", HUNDRED, divisors, HUNDRED)
        self.refused_with(InvalidCount, "value", SIXTY_ONE, unit_inverse, 7, SIXTY_ONE)


if __name__ == "__main__":
    unittest.main()
