"""Linear functions of ratios."""

from gustfloor.ratios import Ratio


class Line:
    """A linear function of ratios whose slope is not 0."""

    def __init__(self, slope, offset):
        self._slope = slope
        self._offset = offset

    def value_at(self, ratio):
        """The value of the function at a ratio."""
        return self._slope * ratio + self._offset

    def rises(self):
        """Whether greater ratios have greater values."""
        return self._slope.top > 0

    def is_steep(self):
        """Whether the slope is greater than 1, so that values move away from where the function rests."""
        return Ratio(1).is_below(self._slope)

    def is_slack(self):
        """Whether the slope is less than 1, so that values move to where a rising function rests."""
        return self._slope.is_below(Ratio(1))

    def resting(self):
        """The ratio that is its own value; the slope is not 1."""
        return self._offset.over(Ratio(1) - self._slope)

    def after(self, inner):
        """The function that takes the value of the inner one."""
        return Line(self._slope * inner._slope, self.value_at(inner._offset))

    def inverse(self):
        """The function that leads from the values back to the ratios."""
        return Line(Ratio(1).over(self._slope), -self._offset.over(self._slope))

    def mirrored(self):
        """The function that does below 0 what this one does above it, and the other way round."""
        return Line(self._slope, -self._offset)

    def moved(self, cut):
        """The cut at the value that lies on the same side of it as the cut, seen from the values."""
        return self.value_at(cut[0]), cut[1] == self.rises()
