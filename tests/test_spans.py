import unittest
from fractions import Fraction

from gustfloor import spans
from gustfloor.errors import InvalidSpan
from gustfloor.ratios import Ratio
from gustfloor.spans import Span, Spread

TRUTHS = [(has_low, has_high) for has_low in (True, False) for has_high in (True, False)]
BIG = 10 ** 30 + 57


def of(fraction):
    return Ratio(fraction.numerator, fraction.denominator)


def span(low, high, has_low=True, has_high=True):
    return Span(of(Fraction(low)), of(Fraction(high)), has_low=has_low, has_high=has_high)


def is_in(fraction, low, high, has_low, has_high):
    return low < fraction < high or (fraction == low and has_low) or (fraction == high and has_high)


def simplest(low, high, has_low, has_high):
    """The simplest ratio of a span, found by going through all tops of each bottom."""
    bottom = 1
    while True:
        first, last = low * bottom // 1, high * bottom // 1 + 1
        tops = [top for top in range(first, last + 1) if is_in(Fraction(top, bottom), low, high, has_low, has_high)]
        if tops:
            return Fraction(min(tops, key=abs), bottom)
        bottom += 1


class SpanTests(unittest.TestCase):
    def refused(self, low, high, *, by=Span, **truths):
        with self.assertRaises(InvalidSpan) as caught:
            by(low, high, **truths)
        given = caught.exception.given
        self.assertIs(given.__class__, tuple)
        self.assertEqual(given, (low, high))
        for one, other in zip(given, (low, high)):
            self.assertIs(one.__class__, other.__class__)
        self.assertEqual(caught.exception.code, "InvalidSpan")

    def test_interface(self):
        self.assertEqual(Span.__module__, "gustfloor.spans")
        self.assertIs(spans.Span, Span)
        words = [
            "low", "high", "has_low", "has_high", "only", "between", "simplest", "__contains__", "__eq__", "__str__",
            "__repr__",
        ]
        for word in words:
            self.assertIn(word, Span.__dict__)

    def test_ends_and_truths(self):
        for has_low, has_high in TRUTHS:
            held = Span(Ratio(-1, 3), Ratio(1, 2), has_low=has_low, has_high=has_high)
            self.assertEqual(held.low, Ratio(-1, 3))
            self.assertEqual(held.high, Ratio(1, 2))
            self.assertIs(held.has_low, has_low)
            self.assertIs(held.has_high, has_high)

    def test_both_ends_belong_to_it_by_default(self):
        held = Span(Ratio(0), Ratio(1))
        self.assertEqual((held.has_low, held.has_high), (True, True))
        held = Span(Ratio(0), Ratio(1), has_low=False)
        self.assertEqual((held.has_low, held.has_high), (False, True))
        held = Span(Ratio(0), Ratio(1), has_high=False)
        self.assertEqual((held.has_low, held.has_high), (True, False))

    def test_parameters_by_name(self):
        held = Span(has_high=False, high=Ratio(1), low=Ratio(0))
        self.assertEqual(held, Span(Ratio(0), Ratio(1), has_high=False))
        self.assertEqual(Span(Ratio(0), high=Ratio(1)), Span(Ratio(0), Ratio(1)))
        self.assertEqual(Span.only(ratio=Ratio(3)), Span(Ratio(3), Ratio(3)))
        self.assertEqual(Span.between(high=Ratio(3), low=Ratio(2)), Span.between(Ratio(2), Ratio(3)))

    def test_truths_are_keyword_only(self):
        with self.assertRaises(TypeError):
            Span(Ratio(0), Ratio(1), True)
        with self.assertRaises(TypeError):
            Span(Ratio(0), Ratio(1), False, False)

    def test_ends_in_the_wrong_order(self):
        for has_low, has_high in TRUTHS:
            self.refused(Ratio(1), Ratio(0), has_low=has_low, has_high=has_high)
            self.refused(Ratio(-1, 3), Ratio(-1, 2), has_low=has_low, has_high=has_high)
            self.refused(Ratio(BIG + 1, BIG), Ratio(BIG + 2, BIG + 1), has_low=has_low, has_high=has_high)

    def test_equal_ends(self):
        for has_low, has_high in TRUTHS[1:]:
            self.refused(Ratio(1, 2), Ratio(2, 4), has_low=has_low, has_high=has_high)
        held = Span(Ratio(1, 2), Ratio(2, 4), has_low=True, has_high=True)
        self.assertEqual((held.low, held.high), (Ratio(1, 2), Ratio(1, 2)))

    def test_ends_that_are_no_ratios(self):
        values = [
            None, True, False, 0, 1, 2, "0", "1/2", "", (), (0, 1), [], [Ratio(0)], Span.only(Ratio(0)), Spread(),
        ]
        for value in values:
            self.refused(value, Ratio(1))
            self.refused(Ratio(0), value)
            self.refused(value, value)
            self.refused(value, Ratio(1), has_low=False, has_high=False)
        self.refused(Ratio(1), 0)
        self.refused(0, 1)

    def test_only(self):
        held = Span.only(Ratio(-2, 6))
        self.assertEqual((held.low, held.high), (Ratio(-1, 3), Ratio(-1, 3)))
        self.assertEqual((held.has_low, held.has_high), (True, True))
        self.assertIs(Ratio(-1, 3) in held, True)
        self.assertIs(Ratio(1, 3) in held, False)

    def test_between(self):
        held = Span.between(Ratio(1, 3), Ratio(1, 2))
        self.assertEqual((held.low, held.high), (Ratio(1, 3), Ratio(1, 2)))
        self.assertEqual((held.has_low, held.has_high), (False, False))
        self.refused(Ratio(1), Ratio(1), by=Span.between)
        self.refused(Ratio(1), Ratio(0), by=Span.between)
        self.refused(0, 1, by=Span.between)
        self.refused(Ratio(0), None, by=Span.between)
        self.refused(True, Ratio(2), by=Span.between)

    def test_text(self):
        self.assertEqual(str(span(0, Fraction(1, 2))), "[0, 1/2]")
        self.assertEqual(str(span(0, Fraction(1, 2), True, False)), "[0, 1/2)")
        self.assertEqual(str(span(Fraction(-1, 2), 3, False, True)), "(-1/2, 3]")
        self.assertEqual(str(span(-2, -1, False, False)), "(-2, -1)")
        self.assertEqual(str(Span.only(Ratio(3))), "[3, 3]")

    def test_repr(self):
        self.assertEqual(repr(span(0, Fraction(1, 2), True, False)), "Span([0, 1/2))")
        self.assertEqual(repr(Span.between(Ratio(-1), Ratio(1))), "Span((-1, 1))")
        self.assertEqual(repr([Span.only(Ratio(3))]), "[Span([3, 3])]")

    def test_membership_of_ratios(self):
        for has_low, has_high in TRUTHS:
            held = span(Fraction(-1, 2), Fraction(2, 3), has_low, has_high)
            for top in range(-12, 13):
                inside = is_in(Fraction(top, 12), Fraction(-1, 2), Fraction(2, 3), has_low, has_high)
                self.assertIs(Ratio(top, 12) in held, inside)
                self.assertIs(Ratio(top, 12) not in held, not inside)

    def test_membership_is_exact(self):
        held = Span.between(Ratio(BIG - 1, BIG), Ratio(BIG + 1, BIG))
        self.assertIn(Ratio(1), held)
        self.assertIn(Ratio(BIG, BIG + 1), held)
        self.assertNotIn(Ratio(BIG - 1, BIG), held)
        self.assertNotIn(Ratio(BIG - 2, BIG - 1), held)
        self.assertNotIn(Ratio(BIG, BIG - 1), held)

    def test_membership_of_any_value(self):
        values = [None, True, False, 0, 1, "0", "1/2", "", (), (0, 1), [], [Ratio(0)], (Ratio(0),), Spread()]
        for held in (span(-3, 3), Span.only(Ratio(0)), Span.between(Ratio(-1), Ratio(2))):
            for value in values + [held, InvalidSpan(1)]:
                self.assertIs(value in held, False)

    def test_equal_ends_and_truths(self):
        for truths in TRUTHS:
            for others in TRUTHS:
                equal = span(0, Fraction(1, 2), *truths) == span(0, Fraction(2, 4), *others)
                self.assertIs(equal, truths == others)
                different = span(0, Fraction(1, 2), *truths) != span(0, Fraction(2, 4), *others)
                self.assertIs(different, truths != others)
        self.assertIs(span(0, 1) == span(0, 2), False)
        self.assertIs(span(0, 2) == span(1, 2), False)
        self.assertIs(Span.only(Ratio(1)) == Span(Ratio(1), Ratio(1)), True)

    def test_equal_to_nothing_else(self):
        held = span(0, 1)
        values = [
            None, True, 0, "[0, 1]", "", (Ratio(0), Ratio(1)), [Ratio(0), Ratio(1)], (0, 1), Ratio(0), [held], (held,),
            Spread([held]), Spread(),
        ]
        for value in values:
            self.assertIs(held == value, False)
            self.assertIs(value == held, False)
            self.assertIs(held != value, True)
        self.assertIs(Span.only(Ratio(2)) == Ratio(2), False)


class SimplestTests(unittest.TestCase):
    def check(self, low, high, expected, has_low=True, has_high=True):
        found = span(low, high, has_low, has_high).simplest()
        self.assertIsInstance(found, Ratio)
        self.assertEqual(found, of(Fraction(expected)))

    def test_around_zero(self):
        for truths in TRUTHS:
            self.check(-1, 1, 0, *truths)
            self.check(Fraction(-1, 7), Fraction(1, 9), 0, *truths)
            self.check(-100, Fraction(1, 1000), 0, *truths)

    def test_beginning_or_ending_at_zero(self):
        self.check(0, Fraction(1, 3), 0)
        self.check(Fraction(-1, 3), 0, 0)
        self.check(0, Fraction(1, 3), Fraction(1, 3), False, True)
        self.check(0, Fraction(1, 3), Fraction(1, 4), False, False)
        self.check(Fraction(-1, 3), 0, Fraction(-1, 3), True, False)
        self.check(Fraction(-1, 3), 0, Fraction(-1, 4), False, False)
        self.check(0, Fraction(2, 7), Fraction(1, 4), False, True)
        self.check(0, 5, 1, False, True)
        self.check(-5, 0, -1, True, False)

    def test_below_zero(self):
        self.check(-7, -3, -3)
        self.check(-7, -3, -4, True, False)
        self.check(Fraction(-1, 2), Fraction(-1, 3), Fraction(-1, 2))
        self.check(Fraction(-1, 2), Fraction(-1, 3), Fraction(-1, 3), False, True)
        self.check(Fraction(-1, 2), Fraction(-1, 3), Fraction(-2, 5), False, False)
        self.check(Fraction(-5, 2), Fraction(-7, 3), Fraction(-5, 2))
        self.check(Fraction(-5, 2), Fraction(-7, 3), Fraction(-7, 3), False, True)

    def test_of_one_ratio(self):
        for fraction in (0, 5, -5, Fraction(1, 2), Fraction(-355, 113), Fraction(BIG, BIG - 1)):
            self.check(fraction, fraction, fraction)

    def test_ends_at_whole_numbers(self):
        self.check(2, 5, 2)
        self.check(2, 5, 3, False, True)
        self.check(2, 3, 3, False, True)
        self.check(2, 3, Fraction(5, 2), False, False)
        self.check(2, Fraction(7, 3), Fraction(9, 4), False, False)
        self.check(2, Fraction(7, 3), Fraction(7, 3), False, True)
        self.check(Fraction(8, 3), 3, 3)
        self.check(Fraction(8, 3), 3, Fraction(8, 3), True, False)
        self.check(Fraction(8, 3), 3, Fraction(11, 4), False, False)
        self.check(-3, -2, Fraction(-5, 2), False, False)

    def test_narrow_spans(self):
        self.check(Fraction(314, 100), Fraction(315, 100), Fraction(22, 7))
        self.check(Fraction(1, 3), Fraction(1, 2), Fraction(2, 5), False, False)
        self.check(Fraction(1, BIG + 1), Fraction(1, BIG - 1), Fraction(1, BIG), False, False)
        self.check(Fraction(1, BIG + 1), Fraction(1, BIG), Fraction(2, 2 * BIG + 1), False, False)
        self.check(Fraction(BIG, BIG + 1), Fraction(BIG + 1, BIG + 2), Fraction(2 * BIG + 1, 2 * BIG + 3), False, False)

    def test_ends_of_many_digits(self):
        rows = [Ratio(1)]
        while len(rows) < 2000:
            rows.append(Ratio(1) + Ratio(1).over(rows[-1]))
        # Each of these ratios lies between the two before it, and is the simplest one there.
        low, high = sorted(rows[-3:-1], key=lambda ratio: Fraction(ratio.top, ratio.bottom))
        self.assertEqual(Span.between(low, high).simplest(), rows[-1])
        self.assertEqual(Span(low, high).simplest(), rows[-3])
        self.assertEqual(Span.between(-high, -low).simplest(), -rows[-1])

    def test_against_a_search(self):
        ends = sorted({Fraction(top, bottom) for bottom in range(1, 7) for top in range(-9, 10)})
        for low in ends[::2]:
            for high in ends:
                for truths in TRUTHS:
                    if low < high or (low == high and truths == (True, True)):
                        self.check(low, high, simplest(low, high, *truths), *truths)

    def test_span_stays_as_it_was(self):
        held = span(Fraction(-1, 2), Fraction(-1, 3), False, True)
        held.simplest()
        self.assertEqual(str(held), "(-1/2, -1/3]")


if __name__ == "__main__":
    unittest.main()
