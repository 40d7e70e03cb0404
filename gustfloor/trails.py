"""Trails: what can be reached from a place with so many pieces and with no fewer, number by number."""

from gustfloor.errors import TooFar
from gustfloor.links import web_of
from gustfloor.spans import Span, Spread


class Trail:
    """The layers of the places that can be reached from a start: those with 0 pieces, with 1 piece, and so on."""

    def __init__(self, floor, start):
        side, ratio = start
        self._web = web_of(floor)
        self._found = {side: Spread([Span.only(ratio)])}
        self._layers = [{side: Spread([Span.only(ratio)])}]

    def pieces(self):
        """How many pieces lead to the places of the last layer."""
        return len(self._layers) - 1

    def newest(self, side):
        """The ratios of the last layer on a side, as a Spread."""
        return self._layers[-1].get(side, Spread())

    def newest_within(self, side, span):
        """A ratio of the last layer on a side that is one of a span, or None."""
        inside = self.newest(side) & Spread([span])
        return inside.spans()[0].simplest() if inside else None

    def go_on(self):
        """Adds a layer: what one more piece leads to, without what was found earlier."""
        layer = {}
        for side, spread in self._layers[-1].items():
            for other, link in self._web[side].items():
                news = link.carried_spread(spread) - self._found.get(other, Spread())
                if news:
                    layer[other] = layer.get(other, Spread()) | news
        for side, spread in layer.items():
            self._found[side] = self._found.get(side, Spread()) | spread
        self._layers.append(layer)

    def go_on_to(self, place, most):
        """Goes on until the last layer has a place that can be reached; raises TooFar(most); most may be None."""
        while place[1] not in self.newest(place[0]):
            if self.pieces() == most:
                raise TooFar(most)
            self.go_on()

    def place_ahead_of(self, place, layer):
        """A place of a layer from which a piece leads to a place of the next layer."""
        for side, spread in layer.items():
            if place[0] in self._web[side]:
                before = self._web[side][place[0]].backward().carried_spread(Spread([Span.only(place[1])])) & spread
                if before:
                    # Simple ratios keep the numbers of a long way short.
                    return side, before.spans()[0].simplest()
        return None

    def way_to(self, place):
        """A way from the start to a place of the last layer."""
        places = [place]
        for layer in self._layers[:-1][::-1]:
            places.append(self.place_ahead_of(places[-1], layer))
        return places[::-1]
