"""A hull from a table: its areas, volumes and centres at each height."""

from hullafloat.batten import Batten, PARTS
from hullafloat.quotient import lowest_terms


class Hull:
    def __init__(self, places, heights, half_breadths):
        stations = len(places)
        lines = [
            Batten(places, half_breadths[level * stations:(level + 1) * stations])
            for level in range(len(heights))
        ]
        # All her levels' lines have their nails at the same places, so they share the first one's scale.
        self.share = PARTS * lines[0].scale
        self.lowest = heights[0]
        self.highest = heights[-1]
        # An integral along a batten's values is a sum of them, so the batten up through the levels' integrals
        # tells the integral at every height between. Both her sides count: hence twice.
        self.areas = Batten(heights, [2 * line.integral(places[-1]) for line in lines])
        self.levers = Batten(heights, [2 * line.moment(places[-1]) for line in lines])

    def spans(self, z):
        return self.lowest <= z and z <= self.highest

    def area(self, z):
        return lowest_terms(self.areas.value(z), self.areas.scale * self.share)

    def volume(self, z):
        return lowest_terms(self.areas.integral(z), PARTS * self.areas.scale * self.share)

    def has_volume(self, z):
        return self.areas.integral(z) > 0

    # Only where she has volume. The moments and the volume are all times the same number, which falls out.
    def centre(self, z):
        volume = self.areas.integral(z)
        along = lowest_terms(self.levers.integral(z), volume)
        up = lowest_terms(self.areas.moment(z), volume)
        return along + up
