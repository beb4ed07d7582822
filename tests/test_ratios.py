"""[2.1]: ratios."""

import unittest
from fractions import Fraction

from levelroads.base import ratios as module
from levelroads.base.ratios import Ratio
from levelroads.errors import InvalidCount, InvalidOperation, ParseError
from support import NO_INTEGERS, SIXTY, SIXTY_ONE, Case

SMALL = [Ratio(top, bottom) for top in range(-6, 7) for bottom in range(1, 7)]
OTHERS = tuple(value for value in NO_INTEGERS if not isinstance(value, Ratio))


def fraction_of(value):
    return Fraction(value.top, value.bottom) if isinstance(value, Ratio) else Fraction(value)


class Examples(Case):
    def test_examples(self):
        half, third = Ratio(2, -4), Ratio(1, 3)
        self.same(
            [str(half), str(half.plus(third)), str(half.times(6)), str(third.over(half)), half.compared(third),
             half.sign, Ratio.read("-1/2") == half, Ratio(3) == 3],
            ["-1/2", "-1/6", "-3", "-2/3", -1, -1, True, False])

    def test_constant(self):
        self.same(module.MAX_FIGURES, 60)


class Making(Case):
    def test_lowest_terms(self):
        for top in range(-30, 31):
            for bottom in list(range(-30, 0)) + list(range(1, 31)):
                ratio, wanted = Ratio(top, bottom), Fraction(top, bottom)
                self.same((ratio.top, ratio.bottom), (wanted.numerator, wanted.denominator))
                self.same(ratio.sign, (top * bottom > 0) - (top * bottom < 0))

    def test_integers(self):
        self.same([(Ratio(n).top, Ratio(n).bottom, Ratio(n).sign) for n in (0, 1, -1, SIXTY, -SIXTY)],
                  [(0, 1, 0), (1, 1, 1), (-1, 1, -1), (SIXTY, 1, 1), (-SIXTY, 1, -1)])
        self.same((Ratio(0, -SIXTY).top, Ratio(0, -SIXTY).bottom), (0, 1))
        self.same((Ratio(SIXTY, -SIXTY).top, Ratio(SIXTY, -SIXTY).bottom), (-1, 1))

    def test_other_values(self):
        for value in NO_INTEGERS:
            self.refused_with(InvalidCount, "value", value, Ratio, value)
            self.refused_with(InvalidCount, "value", value, Ratio, value, 0)
            self.refused_with(InvalidCount, "value", value, Ratio, value, "x")
            self.refused_with(InvalidCount, "value", value, Ratio, 1, value)
        self.refused_with(InvalidCount, "value", 0, Ratio, 1, 0)
        self.refused_with(InvalidCount, "value", 0, Ratio, 0, 0)

    def test_never_changes(self):
        ratio = Ratio(1, 2)
        for name in ("top", "bottom", "sign"):
            with self.assertRaises(AttributeError):
                setattr(ratio, name, 5)
        ratio.plus(1), ratio.minus(1), ratio.times(3), ratio.over(3), ratio.compared(3), ratio.opposite(), str(ratio)
        self.assertEqual((ratio.top, ratio.bottom), (1, 2))


class Counting(Case):
    def check(self, ratio, wanted):
        self.assertIs(type(ratio), Ratio)
        self.same((ratio.top, ratio.bottom), (wanted.numerator, wanted.denominator))

    def test_all_methods(self):
        for one in SMALL:
            value = fraction_of(one)
            self.check(one.opposite(), -value)
            for other in SMALL + list(range(-3, 4)):
                second = fraction_of(other)
                self.check(one.plus(other), value + second)
                self.check(one.minus(other), value - second)
                self.check(one.times(other), value * second)
                self.same(one.compared(other), (value > second) - (value < second))
                if second:
                    self.check(one.over(other), value / second)
                else:
                    self.refused(InvalidOperation, one.over, other)

    def test_long_integers(self):
        one = Ratio(SIXTY, SIXTY - 1)
        self.check(one.plus(SIXTY), fraction_of(one) + SIXTY)
        self.check(one.times(one), fraction_of(one) ** 2)
        # What a method made can be longer, and can be passed on.
        square = one.times(one)
        self.check(square.times(square).minus(square), fraction_of(one) ** 4 - fraction_of(one) ** 2)
        self.check(one.over(square), 1 / fraction_of(one))
        self.same(one.compared(square), -1)

    def test_other_values(self):
        for value in OTHERS:
            for name in ("plus", "minus", "times", "over", "compared"):
                self.refused(InvalidOperation, getattr(Ratio(1, 2), name), value)

    def test_division_by_zero(self):
        for value in (0, Ratio(0), Ratio(0, -5)):
            self.refused(InvalidOperation, Ratio(1, 2).over, value)
            self.refused(InvalidOperation, Ratio(0).over, value)


class Comparing(Case):
    def test_equal(self):
        for one in SMALL:
            for other in SMALL:
                self.assertIs(one == other, fraction_of(one) == fraction_of(other))
                self.assertIs(one != other, fraction_of(one) != fraction_of(other))

    def test_other_values(self):
        for ratio in (Ratio(0), Ratio(1), Ratio(2), Ratio(-1, 2)):
            for value in OTHERS + (0, 1, 2, -1, "-1/2", (-1, 2), "1"):
                self.assertIs(ratio == value, False)
                self.assertIs(value == ratio, False)
                self.assertIs(ratio != value, True)


class Texts(Case):
    def test_texts(self):
        self.same([str(Ratio(n, d)) for n, d in ((0, 7), (4, 2), (-4, 2), (3, -4), (6, 8), (1, 1), (-1, 1), (1, -1))],
                  ["0", "2", "-2", "-3/4", "3/4", "1", "-1", "-1"])
        for ratio in SMALL:
            self.assertEqual(str(ratio), str(fraction_of(ratio)))

    def test_long_texts(self):
        one = Ratio(-7 * 10 ** 58 - 1, 10 ** 59 + 3)
        exact = fraction_of(one)
        for _ in range(7):
            one, exact = one.times(one), exact * exact
        wanted = "/".join(self.figures(part) for part in (exact.numerator, exact.denominator))
        self.assertGreater(len(wanted), 15000)
        self.assertEqual(str(one), wanted)
        self.assertEqual(str(one.opposite()), "-" + wanted)
        self.assertEqual(str(one.over(one)), "1")
        for figures in (63, 64, 65, 127, 128, 129):
            power = Ratio(10 ** (figures // 3)).times(10 ** (figures // 3)).times(10 ** (figures - 2 * (figures // 3)))
            self.assertEqual(str(power), "1" + "0" * figures)
            self.assertEqual(str(power.minus(1)), "9" * figures)
            self.assertEqual(str(power.opposite().plus(5)), "-" + "9" * (figures - 1) + "5")

    def figures(self, number):
        found = ""
        while number:
            number, part = divmod(number, 10 ** 500)
            found = str(part).zfill(500) + found
        return found.lstrip("0")

    def test_reading(self):
        for top in range(-25, 26):
            for bottom in range(1, 25):
                ratio = Ratio(top, bottom)
                again = Ratio.read(str(ratio))
                self.assertIs(type(again), Ratio)
                self.same((again.top, again.bottom), (ratio.top, ratio.bottom))

    def test_sixty_figures(self):
        nines = "9" * 60
        self.assertEqual(Ratio.read(nines), Ratio(SIXTY))
        self.assertEqual(Ratio.read("-" + nines), Ratio(-SIXTY))
        self.assertEqual(Ratio.read("1/" + nines), Ratio(1, SIXTY))
        self.assertEqual(Ratio.read(f"-{SIXTY - 1}/{SIXTY}"), Ratio(1 - SIXTY, SIXTY))
        for text in ("1" + "0" * 60, "-" + "9" * 61, "1/1" + "0" * 60, "1" + "0" * 60 + "/3", "9" * 3999, "0" * 61):
            self.refused_with(ParseError, "index", 0, Ratio.read, text)

    def test_near_texts(self):
        near = (
            "", "-", "+", "/", "+1", "--1", "- 1", " 1", "1 ", "1\n", "01", "-01", "00", "-0", "+0", "1/", "/2", "-/2",
            "1//2", "1/2/3", "1/2/", "2/4", "-2/4", "3/3", "1/1", "5/1", "0/1", "0/2", "-0/2", "1/0", "0/0", "1/-2",
            "-1/-2", "1/+2", "1/02", "01/2", "1 /2", "1/ 2", "1/2 ", " 1/2", "1/2\n", "1.0", "1.5", "1e3", "1_000", "a",
            "0x1", "1/b", "1,2", "(1, 2)", "1:2", "1\\2", "None", "True", "4/-2", "6/4", "1/\t2", "1-", "1-/2", "1/2-",
        )
        for text in near:
            self.refused_with(ParseError, "index", 0, Ratio.read, text)

    def test_other_values(self):
        for value in NO_INTEGERS + (0, 1, -5, SIXTY, ("1/2",), ["1"]):
            if value != "1":
                self.refused_with(ParseError, "index", 0, Ratio.read, value)
        self.refused_with(ParseError, "index", 0, Ratio.read, SIXTY_ONE)


if __name__ == "__main__":
    unittest.main()
