import unittest
from fractions import Fraction

from gustfloor import ratios
from gustfloor.errors import InvalidRatio
from gustfloor.ratios import Ratio
from gustfloor.spans import Span, Spread

# Two primes of 31 digits, so that products of them have no other common parts.
BIG = 10 ** 30 + 57
LARGE = 10 ** 30 + 2751
NUMBERS = [-BIG, -12, -3, -2, -1, 0, 1, 2, 3, 4, 6, LARGE]
PAIRS = [(top, bottom) for top in NUMBERS for bottom in NUMBERS if bottom != 0]
NO_NUMBERS = [
    None, True, False, "1", "", (), (1,), [], [1], (1, 2), Ratio(1), Ratio(0), Span.only(Ratio(1)), Spread(),
]


def of(fraction):
    return Ratio(fraction.numerator, fraction.denominator)


def shown(ratio):
    return (ratio.top, ratio.bottom)


class RatioTests(unittest.TestCase):
    def refused(self, values, given):
        with self.assertRaises(InvalidRatio) as caught:
            Ratio(*values)
        self.assertEqual(caught.exception.given, given)
        self.assertEqual(caught.exception.code, "InvalidRatio")
        for one, other in zip(caught.exception.given, given):
            self.assertIs(one.__class__, other.__class__)

    def test_interface(self):
        self.assertEqual(Ratio.__module__, "gustfloor.ratios")
        self.assertIs(ratios.Ratio, Ratio)
        words = [
            "top", "bottom", "read", "__add__", "__sub__", "__mul__", "__neg__", "over", "is_below",
            "__eq__", "__bool__", "__str__", "__repr__",
        ]
        for word in words:
            self.assertIn(word, Ratio.__dict__)

    def test_lowest_terms(self):
        self.assertEqual(shown(Ratio(6, 4)), (3, 2))
        self.assertEqual(shown(Ratio(3, 2)), (3, 2))
        self.assertEqual(shown(Ratio(2, 6)), (1, 3))
        self.assertEqual(shown(Ratio(12, 4)), (3, 1))
        self.assertEqual(shown(Ratio(7)), (7, 1))
        self.assertEqual(shown(Ratio(-7)), (-7, 1))

    def test_bottom_is_positive(self):
        self.assertEqual(shown(Ratio(2, -4)), (-1, 2))
        self.assertEqual(shown(Ratio(-2, -4)), (1, 2))
        self.assertEqual(shown(Ratio(-2, 4)), (-1, 2))
        self.assertEqual(shown(Ratio(5, -1)), (-5, 1))

    def test_zero(self):
        for bottom in (1, -1, 8, -8, BIG, -BIG):
            self.assertEqual(shown(Ratio(0, bottom)), (0, 1))
        self.assertEqual(shown(Ratio(0)), (0, 1))

    def test_lowest_terms_of_31_digits(self):
        self.assertEqual(len(str(BIG)), 31)
        self.assertEqual(shown(Ratio(BIG, LARGE)), (BIG, LARGE))
        self.assertEqual(shown(Ratio(6 * BIG, -4 * BIG)), (-3, 2))
        self.assertEqual(shown(Ratio(-BIG * LARGE, -LARGE * 2)), (BIG, 2))
        self.assertEqual(shown(Ratio(10 ** 30, -(10 ** 30) - 10 ** 15)), (-(10 ** 15), 10 ** 15 + 1))
        self.assertEqual(shown(Ratio(LARGE, -LARGE)), (-1, 1))

    def test_against_fractions(self):
        for top, bottom in PAIRS:
            fraction = Fraction(top, bottom)
            self.assertEqual(shown(Ratio(top, bottom)), (fraction.numerator, fraction.denominator))

    def test_parts_are_plain_numbers(self):
        for part in shown(Ratio(6, -4)) + shown(Ratio(0, 5)):
            self.assertIs(part.__class__, int)

    def test_parameters_by_name(self):
        self.assertEqual(shown(Ratio(top=6, bottom=4)), (3, 2))
        self.assertEqual(shown(Ratio(bottom=4, top=6)), (3, 2))
        self.assertEqual(shown(Ratio(6, bottom=4)), (3, 2))
        self.assertEqual(shown(Ratio(top=6)), (6, 1))

    def test_bottom_of_zero(self):
        for top in (1, 0, -3, BIG):
            self.refused((top, 0), (top, 0))

    def test_values_that_are_no_numbers(self):
        for value in NO_NUMBERS:
            self.refused((value,), (value, 1))
            self.refused((value, 2), (value, 2))
            self.refused((value, 0), (value, 0))
            self.refused((2, value), (2, value))
            self.refused((value, value), (value, value))

    def test_text(self):
        self.assertEqual(str(Ratio(-1, 2)), "-1/2")
        self.assertEqual(str(Ratio(3)), "3")
        self.assertEqual(str(Ratio(6, -2)), "-3")
        self.assertEqual(str(Ratio(6, 4)), "3/2")
        self.assertEqual(str(Ratio(0, -4)), "0")
        self.assertEqual(str(Ratio(10, 100)), "1/10")
        self.assertEqual(str(Ratio(-BIG, LARGE)), f"-{BIG}/{LARGE}")
        self.assertEqual(str(Ratio(10 ** 99)), "1" + "0" * 99)
        self.assertEqual(str(Ratio(1, 10 ** 64)), "1/1" + "0" * 64)
        self.assertEqual(str(Ratio(1 - 10 ** 64)), "-" + "9" * 64)
        self.assertEqual(str(Ratio(10 ** 80 + 305)), "1" + "0" * 77 + "305")

    def test_text_of_any_size(self):
        large = Ratio.read("1" + "0" * 1999)
        self.assertEqual(str(large * large * -large), "-1" + "0" * 5997)
        self.assertEqual(str(Ratio(-7).over(large * large * large)), "-7/1" + "0" * 5997)

    def test_repr(self):
        self.assertEqual(repr(Ratio(-1, 2)), "Ratio(-1/2)")
        self.assertEqual(repr(Ratio(4, 2)), "Ratio(2)")
        self.assertEqual(repr([Ratio(0)]), "[Ratio(0)]")

    def test_equal_to_the_same_value(self):
        self.assertIs(Ratio(6, 4) == Ratio(-3, -2), True)
        self.assertIs(Ratio(0, 3) == Ratio(0, -8), True)
        self.assertIs(Ratio(BIG * 2, LARGE * 2) == Ratio(BIG, LARGE), True)
        self.assertIs(Ratio(6, 4) != Ratio(3, 2), False)
        self.assertIs(Ratio(1, 2) == Ratio(-1, 2), False)
        self.assertIs(Ratio(1, 2) == Ratio(1, 3), False)
        self.assertIs(Ratio(1, 2) == Ratio(3, 2), False)
        self.assertIs(Ratio(2) == Ratio(1, 2), False)
        self.assertIs(Ratio(1, 2) != Ratio(1, 3), True)
        self.assertIs(Ratio(BIG, LARGE) == Ratio(BIG + 1, LARGE + 1), False)

    def test_equal_to_nothing_else(self):
        values = [
            None, True, False, 1, 0, "1", "", "0", "1/2", (1, 1), [1, 1], (1, 2), (), [], (Ratio(1),), [Ratio(1)],
            Span.only(Ratio(1)), Spread([Span.only(Ratio(1))]), Spread(), InvalidRatio(1),
        ]
        for ratio in (Ratio(1), Ratio(0), Ratio(1, 2)):
            for value in values:
                self.assertIs(ratio == value, False)
                self.assertIs(value == ratio, False)
                self.assertIs(ratio != value, True)

    def test_truth(self):
        for ratio in (Ratio(1), Ratio(-1), Ratio(1, 2), Ratio(-1, 3), Ratio(1, BIG)):
            self.assertIs(bool(ratio), True)
        for ratio in (Ratio(0), Ratio(0, -5), Ratio(1, 2) - Ratio(2, 4)):
            self.assertIs(bool(ratio), False)

    def test_sums_differences_and_products(self):
        for one in PAIRS:
            for other in PAIRS[::5]:
                first, second = Ratio(*one), Ratio(*other)
                left, right = Fraction(*one), Fraction(*other)
                self.assertEqual(shown(first + second), shown(of(left + right)))
                self.assertEqual(shown(first - second), shown(of(left - right)))
                self.assertEqual(shown(first * second), shown(of(left * right)))

    def test_results_are_in_lowest_terms(self):
        self.assertEqual(shown(Ratio(1, 6) + Ratio(1, 3)), (1, 2))
        self.assertEqual(shown(Ratio(1, 2) + Ratio(-1, 2)), (0, 1))
        self.assertEqual(shown(Ratio(5, 6) - Ratio(1, 3)), (1, 2))
        self.assertEqual(shown(Ratio(2, 3) * Ratio(3, 4)), (1, 2))
        self.assertEqual(shown(Ratio(1, 6) - Ratio(1, 2)), (-1, 3))

    def test_results_are_ratios(self):
        one, other = Ratio(1, 2), Ratio(1, 2)
        for result in (one + other, one - other, one * other, -one, one.over(other), Ratio.read("1/2")):
            self.assertIsInstance(result, Ratio)

    def test_negative(self):
        for top, bottom in PAIRS:
            self.assertEqual(shown(-Ratio(top, bottom)), shown(Ratio(-top, bottom)))
        self.assertEqual(shown(-Ratio(0)), (0, 1))
        self.assertEqual(shown(-Ratio(1, 2)), (-1, 2))

    def test_over(self):
        for one in PAIRS:
            for other in PAIRS[::5]:
                if other[0] != 0:
                    quotient = Ratio(*one).over(Ratio(*other))
                    self.assertEqual(shown(quotient), shown(of(Fraction(*one) / Fraction(*other))))
        self.assertEqual(shown(Ratio(1, 2).over(Ratio(-2, 3))), (-3, 4))
        self.assertEqual(shown(Ratio(0).over(Ratio(-2, 3))), (0, 1))
        self.assertEqual(shown(Ratio(1, 2).over(other=Ratio(1, 4))), (2, 1))

    def test_over_zero(self):
        for ratio in (Ratio(1), Ratio(0), Ratio(-1, 2)):
            zero = Ratio(0, 3)
            with self.assertRaises(InvalidRatio) as caught:
                ratio.over(zero)
            self.assertIsInstance(caught.exception.given, Ratio)
            self.assertEqual(caught.exception.given, zero)

    def test_is_below(self):
        for one in PAIRS:
            for other in PAIRS:
                below = Ratio(*one).is_below(Ratio(*other))
                self.assertIs(below, Fraction(*one) < Fraction(*other))
        self.assertIs(Ratio(-1, 2).is_below(Ratio(-1, 3)), True)
        self.assertIs(Ratio(1, 2).is_below(Ratio(2, 4)), False)
        self.assertIs(Ratio(1, 3).is_below(other=Ratio(1, 2)), True)

    def test_is_below_is_exact(self):
        more, less = Ratio(10 ** 30 + 1, 10 ** 30), Ratio(10 ** 30 + 2, 10 ** 30 + 1)
        self.assertIs(less.is_below(more), True)
        self.assertIs(more.is_below(less), False)
        self.assertIs((-more).is_below(-less), True)

    def test_operands_stay_as_they_were(self):
        one, other = Ratio(-3, 4), Ratio(5, 6)
        one + other, one - other, one * other, -one, one.over(other), one.is_below(other), one == other
        bool(one), str(one), repr(one)
        with self.assertRaises(InvalidRatio):
            one.over(Ratio(0))
        self.assertEqual(shown(one), (-3, 4))
        self.assertEqual(shown(other), (5, 6))


class ReadTests(unittest.TestCase):
    def refused(self, text):
        with self.assertRaises(InvalidRatio) as caught:
            Ratio.read(text)
        self.assertEqual(caught.exception.given, text)
        self.assertIs(caught.exception.given.__class__, text.__class__)

    def test_each_text_of_a_ratio(self):
        for top, bottom in PAIRS:
            ratio = Ratio(top, bottom)
            self.assertEqual(Ratio.read(str(ratio)), ratio)

    def test_plain_texts(self):
        self.assertEqual(shown(Ratio.read("0")), (0, 1))
        self.assertEqual(shown(Ratio.read("7")), (7, 1))
        self.assertEqual(shown(Ratio.read("-12")), (-12, 1))
        self.assertEqual(shown(Ratio.read("-1/2")), (-1, 2))
        self.assertEqual(shown(Ratio.read("10/7")), (10, 7))
        self.assertEqual(shown(Ratio.read("100/9")), (100, 9))
        self.assertEqual(shown(Ratio.read(text="3/20")), (3, 20))
        self.assertEqual(shown(Ratio(5).read("1/3")), (1, 3))

    def test_not_in_lowest_terms(self):
        for text in ("2/4", "-2/4", "6/3", "0/2", "5/5", f"{BIG * 2}/{LARGE * 2}"):
            self.refused(text)

    def test_signs(self):
        for text in ("+1", "+1/2", "-+1", "+-1", "--1", "1/+2", "1/-2", "-1/-2", "1-", "1/2-", "-", "+", "-/2"):
            self.refused(text)

    def test_blanks(self):
        for text in (" ", " 1", "1 ", " 1/2", "1/2 ", "1 /2", "1/ 2", "- 1", "1\n", "\n1", "1/2\n", "1\n/2", "1 2"):
            self.refused(text)

    def test_leading_zeros(self):
        for text in ("01", "00", "-01", "01/2", "-01/2", "1/02", "000"):
            self.refused(text)

    def test_zero_with_a_sign_or_a_bottom(self):
        for text in ("-0", "+0", "0/1", "-0/1", "-0/3", "0/-1"):
            self.refused(text)

    def test_bottom_of_one_or_zero(self):
        for text in ("1/1", "-3/1", "3/1", "1/0", "0/0", "-1/0", "1/00", "0/1"):
            self.refused(text)

    def test_other_texts(self):
        texts = [
            "", "/", "1/", "/2", "1//2", "1/2/3", "1/2/", "a", "x1", "1x", "1/x", "1.5", "1,5", "1_0", "1/1_1", "0x1",
            "1e3", "1:2", "Ratio(1/2)", "none", "[1, 2]", "()", "1\\2",
        ]
        for text in texts:
            self.refused(text)

    def test_at_most_2000_characters(self):
        longest = "1" + "0" * 1999
        self.assertEqual(shown(Ratio.read(longest)), (10 ** 1999, 1))
        self.assertEqual(str(Ratio.read(longest)), longest)
        below = "-" + "7" * 1999
        self.assertEqual(str(Ratio.read(below)), below)
        parted = "-1" + "0" * 998 + "/" + "9" * 999
        self.assertEqual(len(parted), 2000)
        self.assertEqual(shown(Ratio.read(parted)), (-(10 ** 998), 10 ** 999 - 1))
        self.assertEqual(str(Ratio.read("1/1" + "0" * 1997)), "1/1" + "0" * 1997)

    def test_more_than_2000_characters(self):
        for text in ("1" * 2001, "-" + "1" * 2000, "1/1" + "0" * 1998, "1" + "0" * 1000 + "/" + "9" * 999, "5" * 20000):
            self.refused(text)

    def test_values_that_are_no_strings(self):
        for value in (None, True, False, 0, 1, -3, (), [], ("1",), ["1/2"], (1, 2), Ratio(1, 2), Span.only(Ratio(1))):
            self.refused(value)
        self.refused(Spread())


if __name__ == "__main__":
    unittest.main()
