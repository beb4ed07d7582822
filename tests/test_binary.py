"""[8.1] to [8.8]: binary forms."""

import random
import unittest
from fractions import Fraction
from math import gcd, isqrt

from levelroads.base.numbers import divisors
from levelroads.base.ratios import Ratio
from levelroads.errors import InvalidCount, InvalidForm, InvalidMatrix, TooMany
from levelroads.form import binary as module
from levelroads.form.binary import (
    are_alike_forms, class_number, count_roots, count_shown, forms_of, is_form, is_primitive, is_reduced, is_reducing,
    led_form, matrices_between, measure_of, reduced_form, reducing_matrix, value_of, weight_of, weighted_number,
    whole_number,
)
from support import (
    HUNDRED, IDENTITY, NO_INTEGERS, NO_MATRICES, NO_WHOLES, SIXTY, SIXTY_ONE, Case, random_member,
)
from support import matrix_product as product

FORM = (2, 1, 3)
NO_FORMS = NO_INTEGERS + (
    0, 5, (1, 0), (1, 0, 1, 0), [1, 0, 1], ((1, 0, 1),), (True, 0, 1), (1, False, 1), (1, 0, True), ("1", 0, 1),
    (1, None, 1), (1, 0, Ratio(1)), (0, 0, 1), (1, 0, 0), (0, 0, 0), (-1, 0, -1), (-1, 0, 1), (1, 2, 1), (1, 3, 2),
    (1, 0, -1), (0, 1, 1), (1, 0, SIXTY_ONE), (SIXTY_ONE, 0, 1), (SIXTY, SIXTY_ONE, SIXTY), (1, SIXTY, 1), "101",
    {1: 1}, (HUNDRED, 0, 1),
)
NO_MEASURES = NO_INTEGERS + (0, -1, -3, 4001, 10 ** 9, SIXTY, FORM)
CLASS_NUMBERS = {3: 1, 4: 1, 7: 1, 8: 1, 11: 1, 12: 1, 15: 2, 16: 1, 20: 2, 23: 3, 27: 1, 28: 1, 47: 5, 56: 4, 71: 7,
                 84: 4, 95: 8, 163: 1, 199: 9, 239: 15, 420: 8, 1555: 4, 3315: 8}
ONE_FORM = (3, 4, 7, 8, 11, 12, 16, 19, 27, 28, 43, 67, 163)


def small_forms(size):
    return [(a, b, c) for a in range(1, size + 1) for b in range(-2 * size, 2 * size + 1) for c in range(1, size + 1)
            if 4 * a * c > b * b]


def small_matrices(size):
    spread = range(-size, size + 1)
    return [(p, q, r, s) for p in spread for q in spread for r in spread for s in spread if p * s - q * r == 1]


def plain_led(form, matrix):
    """Led by [8.2], from three values."""
    p, q, r, s = matrix

    def at(x, y):
        a, b, c = form
        x, y = p * x + q * y, r * x + s * y
        return a * x * x + b * x * y + c * y * y
    return at(1, 0), at(1, 1) - at(1, 0) - at(0, 1), at(0, 1)


def plain_reduced(form):
    a, b, c = form
    return abs(b) <= a <= c and (b >= 0 or (abs(b) != a and a != c))


def random_form(chance, size):
    while True:
        form = chance.randint(1, size), chance.randint(-size, size), chance.randint(1, size)
        if 4 * form[0] * form[2] > form[1] * form[1]:
            return form


def fraction(ratio):
    return Fraction(ratio.top, ratio.bottom)


class Examples(Case):
    def test_examples(self):
        self.same([forms_of(23), forms_of(12), class_number(12), forms_of(2), class_number(2), class_number(163)],
                  [((1, 1, 6), (2, -1, 3), (2, 1, 3)), ((1, 0, 3), (2, 2, 2)), 1, (), 0, 1])
        self.same([str(weighted_number(3)), str(weighted_number(4)), str(weighted_number(12)), str(whole_number(12)),
                   str(whole_number(27)), str(whole_number(5))], ['1/3', '1/2', '1', '4/3', '4/3', '0'])
        self.same([reduced_form((6, 13, 8)), reduced_form((3, -5, 4)), measure_of((6, 13, 8)), is_reduced((2, -1, 3)),
                   is_reduced((2, -2, 3)), is_primitive((2, 2, 2))], [(1, 1, 6), (2, -1, 3), 23, True, False, False])
        self.same([led_form((1, 1, 6), (1, 2, 0, 1)), is_reducing((1, 5, 12), (1, -2, 0, 1)),
                   is_reducing((1, 5, 12), (-1, 2, 0, -1)), is_reducing((1, 5, 12), (1, 0, 0, 1))],
                  [(1, 5, 12), True, True, False])
        self.same([matrices_between((1, 0, 1), (1, 0, 1)), matrices_between((2, 1, 3), (2, -1, 3)),
                   len(matrices_between((2, 2, 2), (2, 2, 2))), str(weight_of((5, 0, 5)))],
                  [((-1, 0, 0, -1), (0, -1, 1, 0), (0, 1, -1, 0), (1, 0, 0, 1)), (), 6, '1/2'])
        self.same([count_shown((1, 0, 1), 5), count_shown((1, 0, 1), 4), count_roots(4, 5), count_roots(4, 4),
                   count_shown((2, 1, 3), 6), count_shown((1, 1, 6), 6), count_roots(23, 6)], [8, 0, 2, 0, 2, 4, 4])
        self.refused(InvalidForm, is_reducing, (1, 2, 1), (1, 0, 0, 1))
        self.same([b for b in range(12) if (b * b + 23) % 24 == 0], [1, 5, 7, 11])
        self.same([are_alike_forms(form, (1, 1, 6)) for form in ((6, 1, 1), (6, 5, 2), (6, 7, 3), (6, 11, 6))],
                  [True, False, False, True])

    def test_constants(self):
        self.same([module.MAX_MEASURE, module.MAX_SHOWN], [4000, 10000])


class Forms(Case):
    def test_forms(self):
        for a in range(-3, 4):
            for b in range(-7, 8):
                for c in range(-3, 4):
                    is_one = a > 0 and 4 * a * c - b * b > 0
                    self.assertIs(is_form((a, b, c)), is_one)
        for value in NO_FORMS:
            self.assertIs(is_form(value), False)
        for value in ((SIXTY, 0, SIXTY), (SIXTY, -SIXTY, SIXTY), (1, 0, SIXTY), (1, 2, 2)):
            self.assertIs(is_form(value), True)

    def test_measures(self):
        chance = random.Random(111)
        for form in small_forms(4) + [random_form(chance, SIXTY) for _ in range(50)] + [(SIXTY, 0, SIXTY)]:
            a, b, c = form
            self.same(measure_of(form), 4 * a * c - b * b)
            self.assertIn(measure_of(form) % 4, (0, 3))
            self.assertIs(is_primitive(form), gcd(gcd(a, b), c) == 1)
            self.assertIs(is_reduced(form), plain_reduced(form))
        self.same([is_primitive((SIXTY, 0, SIXTY)), is_primitive((2, 0, SIXTY)), is_primitive((2, 4, 6))],
                  [False, True, False])
        self.same([is_reduced(form) for form in ((1, 1, 1), (1, -1, 1), (2, -1, 2), (2, 1, 2), (2, -2, 5), (2, 2, 5),
                                                 (3, 0, 2), (2, 3, 4), (2, -1, 3))],
                  [True, False, False, True, False, True, False, False, True])

    def test_values(self):
        chance = random.Random(112)
        for _ in range(200):
            form = random_form(chance, chance.choice((5, SIXTY)))
            x, y = (chance.choice((chance.randint(-3, 3), chance.randint(-SIXTY, SIXTY))) for _ in range(2))
            a, b, c = form
            self.same(value_of(form, x, y), a * x * x + b * x * y + c * y * y)
            self.assertIs(value_of(form, x, y) > 0, (x, y) != (0, 0))

    def test_led(self):
        chance = random.Random(113)
        for _ in range(200):
            form = random_form(chance, chance.choice((5, 1000, SIXTY)))
            one, other = (random_member(chance, 1, 5) for _ in range(2))
            led = led_form(form, one)
            self.same(led, plain_led(form, one))
            self.same(measure_of(form), 4 * led[0] * led[2] - led[1] * led[1])
            self.same(led_form(form, IDENTITY), form)
            if is_form(led):
                self.same(led_form(led, other), plain_led(form, product(one, other)))
        self.same(led_form((1, 0, 1), (1, SIXTY, 0, 1)), (1, 2 * SIXTY, SIXTY * SIXTY + 1))


class Reducing(Case):
    def check(self, form):
        matrix, reduced = reducing_matrix(form), reduced_form(form)
        self.assertEqual((type(matrix), len(matrix)), (tuple, 4))
        self.assertTrue(all(type(entry) is int and abs(entry) <= SIXTY for entry in matrix))
        p, q, r, s = matrix
        self.assertEqual(p * s - q * r, 1)
        self.assertTrue(plain_reduced(reduced))
        self.same(plain_led(form, matrix), reduced)
        self.assertIs(is_reducing(form, matrix), True)
        self.assertIs(is_reducing(form, (-p, -q, -r, -s)), True)
        for near in ((p + 1, q, r, s), (p, q + 1, r, s), (p, q, r, s - 1), (-p, -q, r, s), (q, p, s, r), (p, r, q, s),
                     product(matrix, (1, 1, 0, 1)), product(matrix, (0, -1, 1, 0)), product(matrix, (0, -1, 1, 1))):
            is_one = near[0] * near[3] - near[1] * near[2] == 1 and plain_led(form, near) == reduced
            self.assertIs(is_reducing(form, near), is_one)
        return reduced

    def test_small(self):
        for form in small_forms(5):
            self.same(reduced_form(self.check(form)), reduced_form(form))

    def test_great(self):
        chance = random.Random(114)
        for _ in range(60):
            self.check(random_form(chance, SIXTY))
            # A small measure, but great integers.
            reduced = chance.choice(forms_of(chance.choice((3, 4, 12, 16, 23, 47, 1155, 3999))))
            matrix = IDENTITY
            while True:
                longer = product(matrix, random_member(chance, 1, 3))
                if not is_form(plain_led(reduced, longer)):
                    break
                matrix = longer
            self.same(self.check(plain_led(reduced, matrix)), reduced)

    def test_just_one_reduced(self):
        """[8.3]: no matrix leads a reduced form to another reduced one."""
        for measure in (3, 4, 12, 15, 23, 32, 39, 47):
            for form in forms_of(measure):
                for matrix in small_matrices(2):
                    led = plain_led(form, matrix)
                    self.assertEqual(plain_reduced(led), led == form)

    def test_judged(self):
        for value in NO_WHOLES + (5, [1, 0, 0, 1], (1, 0, 0), (1, 0, 0, 1, 0), ((1, 0), (0, 1)), (True, 0, 0, True),
                                  (1, 0, False, 1), (0, 0, 0, 0), (2, 0, 0, 1), (10 ** 3000, 0, 0, 1), "1001"):
            self.assertIs(is_reducing((1, 0, 1), value), False)
        self.assertIs(is_reducing((1, 0, 1), (1, 10 ** 3000, 0, 1)), False)


class Between(Case):
    def test_small(self):
        matrices = small_matrices(4)
        forms = small_forms(2)
        for one in forms:
            reached = {}
            for matrix in matrices:
                reached.setdefault(plain_led(one, matrix), []).append(matrix)
            for other in forms:
                found = matrices_between(one, other)
                self.assertEqual(list(found), sorted(set(found)))
                self.assertTrue(all(plain_led(one, matrix) == other for matrix in found))
                # All between such small forms are among those of these integers.
                self.same(found, tuple(sorted(reached.get(other, []))))
                self.assertIs(are_alike_forms(one, other), bool(found))

    def test_numbers(self):
        """[8.4]"""
        chance = random.Random(115)
        for _ in range(150):
            reduced = chance.choice(((3, 3, 3), (1, 1, 1), (4, 0, 4), (1, 0, 1), FORM, (1, 0, 2), (2, 2, 3), (5, 1, 5)))
            one, other = (plain_led(reduced, random_member(chance, 1, 12)) for _ in range(2))
            many = 6 if reduced in ((3, 3, 3), (1, 1, 1)) else 4 if reduced in ((4, 0, 4), (1, 0, 1)) else 2
            found = matrices_between(one, other)
            self.assertEqual((type(found), len(found), len(set(found)), list(found)),
                             (tuple, many, many, sorted(found)))
            for matrix in found:
                p, q, r, s = matrix
                self.assertEqual(p * s - q * r, 1)
                self.same(plain_led(one, matrix), other)
                self.assertIn((-p, -q, -r, -s), found)
            self.assertEqual(fraction(weight_of(one)), Fraction(2, many))
            self.assertIs(type(weight_of(one)), Ratio)
            self.assertIs(are_alike_forms(one, other), True)

    def test_not_alike(self):
        for one, other in (((1, 1, 6), FORM), (FORM, (2, -1, 3)), ((1, 0, 3), (2, 2, 2)), ((1, 0, 1), (1, 1, 1)),
                           ((SIXTY, 0, 1), (SIXTY, 0, 2)), ((1, 0, 1), (2, 0, 2))):
            self.same([matrices_between(one, other), are_alike_forms(one, other)], [(), False])

    def test_great(self):
        for one in ((SIXTY, SIXTY, SIXTY), (SIXTY, 0, SIXTY), (SIXTY - 1, 7, SIXTY)):
            self.assertEqual(len(matrices_between(one, one)), {SIXTY: 6, 0: 4, 7: 2}[one[1]])


class Numbers(Case):
    def plain_forms(self, measure):
        return tuple(sorted((a, b, (measure + b * b) // (4 * a)) for a in range(1, isqrt(measure) + 1)
                            for b in range(-a, a + 1) if (measure + b * b) % (4 * a) == 0
                            and plain_reduced((a, b, (measure + b * b) // (4 * a)))))

    def weight(self, form):
        a, b, c = form
        return Fraction(1, 3) if a == b == c else Fraction(1, 2) if a == c and b == 0 else Fraction(1)

    def test_numbers(self):
        for measure in list(range(1, 400)) + [999, 1000, 1155, 2000, 2999, 3315, 3640, 3999, 4000]:
            forms = self.plain_forms(measure)
            self.same(forms_of(measure), forms)
            self.assertEqual(bool(forms), measure % 4 in (0, 3))
            own = [form for form in forms if gcd(gcd(*form[:2]), form[2]) == 1]
            self.same(class_number(measure), len(own))
            for found, some in ((weighted_number(measure), own), (whole_number(measure), forms)):
                self.assertIs(type(found), Ratio)
                self.assertEqual(fraction(found), sum((self.weight(form) for form in some), Fraction(0)))

    def test_known(self):
        for measure, wanted in CLASS_NUMBERS.items():
            self.same(class_number(measure), wanted)
        self.assertEqual([measure for measure in range(1, 1000) if class_number(measure) == 1], list(ONE_FORM))

    def test_whole_numbers(self):
        """[8.5]"""
        for measure in list(range(1, 300)) + [1728, 3600, 3888, 4000]:
            wanted = Fraction(0)
            for f in range(1, isqrt(measure) + 1):
                if measure % (f * f) == 0:
                    wanted += fraction(weighted_number(measure // (f * f)))
            self.assertEqual(fraction(whole_number(measure)), wanted)

    def test_sums_of_whole_numbers(self):
        """[8.6]"""
        for n in list(range(1, 80)) + [100, 144, 360, 499, 720, 961, 999, 1000]:
            sums = Fraction(0)
            for t in range(-isqrt(4 * n), isqrt(4 * n) + 1):
                if t * t < 4 * n:
                    sums += fraction(whole_number(4 * n - t * t))
            wanted = sum(max(d, n // d) for d in divisors(n)) + (Fraction(1, 6) if isqrt(n) ** 2 == n else 0)
            self.assertEqual(sums, wanted)


class Shown(Case):
    def test_shown(self):
        for form in small_forms(2) + [(1, 1, 6), FORM, (3, -1, 7), (6, 13, 8)]:
            a, b, c = form
            many = {}
            for x in range(-60, 61):
                for y in range(-60, 61):
                    if gcd(x, y) == 1:
                        value = a * x * x + b * x * y + c * y * y
                        many[value] = many.get(value, 0) + 1
            for number in range(1, 41):
                self.same(count_shown(form, number), many.get(number, 0))

    def test_alike(self):
        chance = random.Random(116)
        for form in ((1, 0, 1), FORM, (1, 1, 1), (3, 2, 100)):
            matrix = random_member(chance, 1, 30)
            for number in (1, 2, 3, 7, 9999, 10000):
                self.same(count_shown(plain_led(form, matrix), number), count_shown(form, number))
        self.same([count_shown((1, 0, 1), 10000), count_shown((1, 0, 1), 9997), count_shown((1, 1, 1), 9997),
                   count_shown((1, 0, 1000), 1), count_shown((1, 0, 1000), 1001)], [0, 16, 24, 2, 4])

    def test_roots(self):
        """[8.7]"""
        for measure in (3, 4, 7, 8, 12, 15, 16, 20, 23, 27, 32, 47, 60, 75, 84, 163):
            for n in list(range(1, 40)) + [100, 121, 144]:
                wanted = sum(Fraction(count_shown(form, n)) * fraction(weight_of(form)) / 2
                             for form in forms_of(measure))
                self.same(count_roots(measure, n), len([b for b in range(2 * n) if (b * b + measure) % (4 * n) == 0]))
                self.assertEqual(count_roots(measure, n), wanted)
        self.same([count_roots(5, 7), count_roots(2, 1), count_roots(3, 1), count_roots(4000, 10000),
                   count_roots(7, 8192)], [0, 0, 1, 0, 2])


class Refusing(Case):
    def test_forms(self):
        calls = {is_reduced: (), measure_of: (), is_primitive: (), value_of: (1, 1), led_form: (IDENTITY,),
                 reduced_form: (), reducing_matrix: (), is_reducing: (IDENTITY,), matrices_between: (FORM,),
                 are_alike_forms: (FORM,), weight_of: (), count_shown: (5,)}
        for value in NO_FORMS:
            for call, others in calls.items():
                self.refused(InvalidForm, call, value, *others)
                self.refused(InvalidForm, call, value, *("x" for _ in others))
            for call in (matrices_between, are_alike_forms):
                self.refused(InvalidForm, call, FORM, value)
                self.refused(InvalidForm, call, value, value)

    def test_values(self):
        for value in NO_INTEGERS:
            self.refused_with(InvalidCount, "value", value, value_of, FORM, value, 1)
            self.refused_with(InvalidCount, "value", value, value_of, FORM, 1, value)
            self.refused_with(InvalidCount, "value", value, value_of, FORM, value, None)

    def test_matrices(self):
        for value in NO_MATRICES + ((0, 0, 0, 0), (1, 1, 1, 1), (2, 0, 0, 1), (1, 0, 0, -1), (0, 1, 1, 0)):
            self.refused(InvalidMatrix, led_form, FORM, value)

    def test_measures(self):
        for value in NO_MEASURES:
            for call in (forms_of, class_number, weighted_number, whole_number):
                self.refused_with(InvalidCount, "value", value, call, value)
            self.refused_with(InvalidCount, "value", value, count_roots, value, 5)
            self.refused_with(InvalidCount, "value", value, count_roots, value, 0)
        self.same([forms_of(1), class_number(1), str(weighted_number(1)), str(whole_number(1)), len(forms_of(4000))],
                  [(), 0, "0", "0", len(forms_of(4000))])
        self.assertTrue(forms_of(4000) and class_number(3999))

    def test_numbers(self):
        for value in NO_INTEGERS + (0, -1, 10001, SIXTY, FORM):
            self.refused_with(InvalidCount, "value", value, count_shown, FORM, value)
            self.refused_with(InvalidCount, "value", value, count_shown, (1, 0, SIXTY), value)
            self.refused_with(InvalidCount, "value", value, count_roots, 23, value)
        self.refused_with(TooMany, "limit", 4000, count_shown, (1, 0, SIXTY), 1)
        self.refused_with(TooMany, "limit", 4000, count_shown, (1, 1, 1001), 10000)
        self.same([count_shown((1, 0, 1000), 1000), measure_of((1, 1, 1001))], [2, 4003])


class Statements(Case):
    def test_what_is_not_true(self):
        """[8.8]"""
        self.assertFalse(are_alike_forms((2, 1, 3), (2, -1, 3)))
        self.same([count_shown((2, 1, 3), n) for n in range(1, 200)],
                  [count_shown((2, -1, 3), n) for n in range(1, 200)])
        self.same([class_number(15), class_number(39)], [2, 4])
        self.same([class_number(3), class_number(12), class_number(7), class_number(28)], [1, 1, 1, 1])


if __name__ == "__main__":
    unittest.main()
