"""The examples at the end of the document."""

import unittest

from gustfloor.ratios import Ratio
from gustfloor.spans import Span, Spread


class ExampleTests(unittest.TestCase):
    def test_ratios(self):
        shown = [str(Ratio(2, -4) + Ratio(1, 3)), Ratio(6, 4).top, Ratio(6, 4).bottom]
        self.assertEqual(shown, ["-1/6", 3, 2])

    def test_spans(self):
        one = Span(Ratio(0), Ratio(1, 2), has_high=False)
        two = Span(Ratio(1, 2), Ratio(2))
        shown = [
            str(Spread([two, one])),
            str(Spread([one]) | Spread([Span.only(Ratio(3))])),
            str(Span.between(Ratio(1, 3), Ratio(1, 2)).simplest()),
        ]
        self.assertEqual(shown, ["[0, 2]", "[0, 1/2) [3, 3]", "2/5"])


if __name__ == "__main__":
    unittest.main()
