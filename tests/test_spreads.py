import unittest

from gustfloor import spans
from gustfloor.errors import InvalidSpan
from gustfloor.ratios import Ratio
from gustfloor.spans import Span, Spread

TRUTHS = [(has_low, has_high) for has_low in (True, False) for has_high in (True, False)]
# Each whole number from 0 to LAST may be an end; the halves between them stand for all ratios between two ends.
LAST = 4
SAMPLES = [Ratio(half, 2) for half in range(-1, 2 * LAST + 2)]
NO_SPANS = [None, True, False, 0, 3, "", "[0, 1]", (), [], (0, 1), (Ratio(0), Ratio(1)), Ratio(1), Spread()]


def span(low, high, has_low=True, has_high=True):
    return Span(Ratio(low), Ratio(high), has_low=has_low, has_high=has_high)


def small_spans():
    found = [Span.only(Ratio(end)) for end in range(LAST + 1)]
    for low in range(LAST):
        for high in range(low + 1, LAST + 1):
            found = found + [span(low, high, *truths) for truths in TRUTHS]
    return found


def members(held):
    """Whether each of the samples is in a span or a spread."""
    return [sample in held for sample in SAMPLES]


def small_spreads():
    """A spread for each set of samples between the first one and the last one."""
    found = []
    for bits in range(0, 2 ** (2 * LAST + 1), 3):
        parts = []
        for half in range(2 * LAST + 1):
            if bits >> half & 1:
                end = half // 2
                parts.append(Span.only(Ratio(end)) if half % 2 == 0 else Span.between(Ratio(end), Ratio(end + 1)))
        found.append(Spread(parts))
    return found


def in_form(spread):
    """Whether the spans are ascending, and the union of two of them is never a span."""
    rows = spread.spans()
    for one, other in zip(rows, rows[1:]):
        if one.high == other.low and (one.has_high or other.has_low):
            return False
        if other.low.is_below(one.high):
            return False
    return True


class SpreadTests(unittest.TestCase):
    def refused(self, spans_given, value):
        for make in (lambda: Spread(spans_given), lambda: Spread(tuple(spans_given)), lambda: Spread.of(*spans_given)):
            with self.assertRaises(InvalidSpan) as caught:
                make()
            self.assertIs(caught.exception.given, value)
            self.assertEqual(caught.exception.code, "InvalidSpan")

    def test_interface(self):
        self.assertEqual(Spread.__module__, "gustfloor.spans")
        self.assertIs(spans.Spread, Spread)
        words = [
            "spans", "walk", "of", "__or__", "__and__", "__sub__", "within", "__contains__", "__len__", "__bool__",
            "__eq__", "__str__", "__repr__",
        ]
        for word in words:
            self.assertIn(word, Spread.__dict__)

    def test_empty(self):
        for spread in (Spread(), Spread([]), Spread(()), Spread.of(), Spread(spans=[])):
            self.assertEqual(spread.spans(), [])
            self.assertEqual(list(spread.walk()), [])
            self.assertEqual(len(spread), 0)
            self.assertIs(bool(spread), False)
            self.assertEqual(str(spread), "none")
            self.assertEqual(repr(spread), "Spread(0 spans)")
            self.assertIs(Ratio(0) in spread, False)

    def test_one_span(self):
        for held in small_spans():
            spread = Spread([held])
            self.assertEqual(spread.spans(), [held])
            self.assertEqual(str(spread), str(held))
            self.assertEqual(members(spread), members(held))

    def test_zero_alone_is_not_empty(self):
        spread = Spread([Span.only(Ratio(0))])
        self.assertIs(bool(spread), True)
        self.assertEqual(len(spread), 1)
        self.assertIs(Ratio(0) in spread, True)

    def test_two_spans(self):
        for one in small_spans():
            for other in small_spans():
                spread = Spread([one, other])
                self.assertTrue(in_form(spread), str(spread))
                both = [first or second for first, second in zip(members(one), members(other))]
                self.assertEqual(members(spread), both)
                self.assertEqual(spread, Spread([other, one]))
                self.assertLessEqual(len(spread), 2)

    def test_touching_spans(self):
        self.assertEqual(str(Spread([span(0, 1), span(1, 2)])), "[0, 2]")
        self.assertEqual(str(Spread([span(0, 1, True, False), span(1, 2)])), "[0, 2]")
        self.assertEqual(str(Spread([span(0, 1), span(1, 2, False, True)])), "[0, 2]")
        self.assertEqual(str(Spread([span(0, 1, True, False), span(1, 2, False, True)])), "[0, 1) (1, 2]")
        gap = [span(1, 2, False, True), span(0, 1, True, False)]
        self.assertEqual(str(Spread(gap + [Span.only(Ratio(1))])), "[0, 2]")
        self.assertEqual(str(Spread([span(0, 1, False, False), Span.only(Ratio(0))])), "[0, 1)")
        self.assertEqual(str(Spread([span(0, 1, False, False), Span.only(Ratio(1))])), "(0, 1]")
        self.assertEqual(str(Spread([span(0, 1, False, False), span(0, 1, True, False)])), "[0, 1)")
        self.assertEqual(str(Spread([span(0, 1, False, True), span(0, 1, True, False)])), "[0, 1]")

    def test_spans_within_others(self):
        self.assertEqual(str(Spread([span(0, 9), span(2, 3), Span.only(Ratio(9))])), "[0, 9]")
        self.assertEqual(str(Spread([span(2, 3), span(0, 9, False, False), span(1, 4)])), "(0, 9)")
        self.assertEqual(str(Spread([span(0, 5), span(3, 9, True, False), span(8, 10, False, False)])), "[0, 10)")

    def test_any_order_and_twice(self):
        parts = [span(8, 9), span(-3, -2, False, True), span(0, 1, True, False), span(-2, -1), Span.only(Ratio(5))]
        text = "(-3, -1] [0, 1) [5, 5] [8, 9]"
        for shift in range(len(parts)):
            turned = parts[shift:] + parts[:shift]
            self.assertEqual(str(Spread(turned)), text)
            self.assertEqual(str(Spread(turned[::-1])), text)
            self.assertEqual(str(Spread(turned + parts)), text)
            self.assertEqual(Spread(turned), Spread(parts))
            self.assertEqual(len(Spread(turned + turned)), 4)

    def test_many_spans(self):
        parts = [span(2 * (k * 137 % 400), 2 * (k * 137 % 400) + 1) for k in range(400)]
        spread = Spread(parts)
        self.assertEqual(len(spread), 400)
        self.assertEqual(spread.spans(), [span(2 * k, 2 * k + 1) for k in range(400)])
        parts = [span(k * 137 % 400, k * 137 % 400 + 1, False, True) for k in range(400)]
        self.assertEqual(str(Spread(parts)), "(0, 400]")

    def test_fractions_are_in_exact_order(self):
        big = 10 ** 30 + 57
        more, less = Ratio(big + 1, big), Ratio(big + 2, big + 1)
        spread = Spread([Span.only(more), Span.only(less)])
        self.assertEqual(spread.spans(), [Span.only(less), Span.only(more)])

    def test_spans_and_walk(self):
        spread = Spread((span(4, 5), span(0, 1), span(2, 3, False, False)))
        rows = [span(0, 1), span(2, 3, False, False), span(4, 5)]
        self.assertIs(spread.spans().__class__, list)
        self.assertEqual(spread.spans(), rows)
        self.assertEqual(list(spread.walk()), rows)
        walking = spread.walk()
        self.assertEqual(next(walking), rows[0])
        self.assertEqual(list(walking), rows[1:])

    def test_of(self):
        self.assertEqual(Spread.of(span(2, 3), span(0, 1)), Spread([span(0, 1), span(2, 3)]))
        self.assertEqual(str(Spread.of(span(2, 3), span(0, 2, True, False))), "[0, 3]")
        self.assertIsInstance(Spread.of(span(0, 1)), Spread)

    def test_values_that_are_no_spans(self):
        good = span(0, 1)
        for value in NO_SPANS:
            self.refused([value], value)
            self.refused([good, value], value)
            self.refused([value, good, 7], value)
            self.refused([good, value, None, True], value)
            self.refused([good, good, value], value)

    def test_membership_of_any_value(self):
        for spread in (Spread([span(-9, 9)]), Spread([Span.only(Ratio(0)), Span.only(Ratio(1))]), Spread()):
            for value in NO_SPANS[:-2] + [Spread([span(0, 1)]), spread, span(0, 1), Span.only(Ratio(0)), [Ratio(0)]]:
                self.assertIs(value in spread, False)

    def test_membership_of_ratios(self):
        spread = Spread([span(0, 1, True, False), span(1, 2, False, True), span(5, 6, False, False)])
        inside = [Ratio(0), Ratio(1, 2), Ratio(3, 2), Ratio(2), Ratio(11, 2)]
        outside = [Ratio(-1), Ratio(-1, 100), Ratio(1), Ratio(201, 100), Ratio(4), Ratio(5), Ratio(6), Ratio(7)]
        self.assertEqual([ratio in spread for ratio in inside], [True] * len(inside))
        self.assertEqual([ratio in spread for ratio in outside], [False] * len(outside))
        self.assertIs(Ratio(1) not in spread, True)

    def test_length_and_truth(self):
        self.assertEqual(len(Spread([span(0, 1), span(2, 3), span(3, 4)])), 2)
        self.assertIs(bool(Spread([span(0, 1), span(2, 3)])), True)
        self.assertIs(bool(Spread([Span.between(Ratio(0), Ratio(1))])), True)

    def test_text_and_repr(self):
        spread = Spread([Span.only(Ratio(3)), Span(Ratio(0), Ratio(1, 2), has_high=False)])
        self.assertEqual(str(spread), "[0, 1/2) [3, 3]")
        self.assertEqual(repr(spread), "Spread(2 spans)")
        self.assertEqual(repr(Spread([span(0, 1)])), "Spread(1 spans)")

    def test_equal_to_the_same_ratios(self):
        spreads = small_spreads()
        for spread in spreads[::7]:
            for other in spreads:
                same = members(spread) == members(other)
                self.assertIs(spread == other, same)
                self.assertIs(spread != other, not same)
        self.assertIs(Spread([span(0, 1), span(1, 2)]) == Spread([span(0, 2)]), True)
        self.assertIs(Spread() == Spread([]), True)

    def test_equal_to_nothing_else(self):
        for spread in (Spread(), Spread([span(0, 1)]), Spread([span(0, 1), span(2, 3)])):
            values = NO_SPANS[:-1] + ["none", str(spread), spread.spans(), tuple(spread.spans()), span(0, 1), [spread]]
            for value in values:
                self.assertIs(spread == value, False)
                self.assertIs(value == spread, False)
                self.assertIs(spread != value, True)


class CombinedTests(unittest.TestCase):
    def test_union_common_part_and_difference(self):
        spreads = small_spreads()
        for one in spreads[::5]:
            for other in spreads[::3]:
                pairs = list(zip(members(one), members(other)))
                for result, expected in (
                    (one | other, [first or second for first, second in pairs]),
                    (one & other, [first and second for first, second in pairs]),
                    (one - other, [first and not second for first, second in pairs]),
                ):
                    self.assertIsInstance(result, Spread)
                    self.assertTrue(in_form(result), str(result))
                    self.assertEqual(members(result), expected)
                self.assertIs(one.within(other), all(second or not first for first, second in pairs))

    def test_union(self):
        one, other = Spread([span(0, 1, True, False)]), Spread([span(1, 2)])
        self.assertEqual(str(one | other), "[0, 2]")
        self.assertEqual(str(other | one), "[0, 2]")
        self.assertEqual(str(one | Spread([Span.only(Ratio(3))])), "[0, 1) [3, 3]")
        self.assertEqual(one | Spread(), one)
        self.assertEqual(Spread() | one, one)
        self.assertEqual(str(Spread() | Spread()), "none")

    def test_common_part(self):
        one, other = Spread([span(0, 2, False, True)]), Spread([span(-1, 0), span(2, 3), span(4, 5)])
        self.assertEqual(str(one & other), "[2, 2]")
        self.assertEqual(str(other & one), "[2, 2]")
        self.assertEqual(str(Spread([span(0, 1)]) & Spread([span(1, 2)])), "[1, 1]")
        self.assertEqual(str(Spread([span(0, 1)]) & Spread([span(1, 2, False, True)])), "none")
        self.assertEqual(str(Spread([span(0, 9)]) & Spread([span(1, 2), span(3, 4, False, False)])), "[1, 2] (3, 4)")
        self.assertEqual(one & Spread(), Spread())

    def test_difference(self):
        whole = Spread([span(0, 3)])
        self.assertEqual(str(whole - Spread([Span.only(Ratio(1))])), "[0, 1) (1, 3]")
        self.assertEqual(str(whole - Spread([Span.between(Ratio(0), Ratio(3))])), "[0, 0] [3, 3]")
        self.assertEqual(str(whole - Spread([span(1, 2)])), "[0, 1) (2, 3]")
        self.assertEqual(str(whole - Spread([span(1, 2, False, False)])), "[0, 1] [2, 3]")
        self.assertEqual(str(whole - Spread([span(-1, 1), span(2, 9, False, False)])), "(1, 2]")
        self.assertEqual(str(whole - whole), "none")
        self.assertEqual(whole - Spread(), whole)
        self.assertEqual(Spread() - whole, Spread())

    def test_within(self):
        open_span, closed = Spread([Span.between(Ratio(0), Ratio(1))]), Spread([span(0, 1)])
        self.assertIs(open_span.within(closed), True)
        self.assertIs(closed.within(open_span), False)
        self.assertIs(closed.within(closed), True)
        self.assertIs(Spread().within(Spread()), True)
        self.assertIs(Spread().within(closed), True)
        self.assertIs(closed.within(Spread()), False)
        self.assertIs(Spread([span(0, 2)]).within(Spread([span(0, 1), span(1, 2, False, True)])), True)
        self.assertIs(Spread([span(0, 2)]).within(Spread([span(0, 1, True, False), span(1, 2, False, True)])), False)
        self.assertIs(closed.within(other=Spread([span(0, 2)])), True)

    def test_spreads_stay_as_they_were(self):
        one, other = Spread([span(0, 2), span(4, 5)]), Spread([span(1, 4, False, False)])
        one | other, one & other, one - other, other - one, one.within(other), one == other
        Ratio(1) in one, len(one), bool(one), str(one), list(one.walk())
        self.assertEqual(str(one), "[0, 2] [4, 5]")
        self.assertEqual(str(other), "(1, 4)")
        self.assertEqual(one.spans(), [span(0, 2), span(4, 5)])
        self.assertEqual([Ratio(3) in one, Ratio(3) in other], [False, True])


class CopyTests(unittest.TestCase):
    def check(self, spread):
        self.assertEqual(str(spread), "[0, 1] [3, 4]")
        self.assertEqual(spread.spans(), [span(0, 1), span(3, 4)])
        self.assertEqual(list(spread.walk()), [span(0, 1), span(3, 4)])
        self.assertEqual(len(spread), 2)
        self.assertIs(bool(spread), True)
        self.assertIs(Ratio(7, 2) in spread, True)
        self.assertIs(Ratio(9) in spread, False)
        self.assertEqual(spread, Spread([span(3, 4), span(0, 1)]))
        self.assertEqual(str(spread | Spread()), "[0, 1] [3, 4]")
        self.assertIs(spread.within(Spread([span(0, 4)])), True)

    def test_passed_list_is_copied(self):
        given = [span(0, 1), span(3, 4)]
        spread = Spread(given)
        given.append(span(8, 9))
        self.check(spread)
        given[0] = span(-5, -4)
        self.check(spread)
        given.clear()
        self.check(spread)

    def test_passed_list_stays_as_it_was(self):
        given = [span(3, 4), span(0, 1), span(1, 2), span(0, 1)]
        Spread(given)
        self.assertEqual(given, [span(3, 4), span(0, 1), span(1, 2), span(0, 1)])
        wrong = [span(3, 4), 7, span(0, 1)]
        with self.assertRaises(InvalidSpan):
            Spread(wrong)
        self.assertEqual(wrong, [span(3, 4), 7, span(0, 1)])

    def test_returned_list_is_new(self):
        spread = Spread([span(0, 1), span(3, 4)])
        rows = spread.spans()
        rows.append(span(8, 9))
        self.check(spread)
        rows[0] = None
        del rows[1:]
        self.check(spread)
        self.assertIsNot(spread.spans(), spread.spans())


if __name__ == "__main__":
    unittest.main()
