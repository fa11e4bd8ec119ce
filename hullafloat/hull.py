"""A hull from a table: its areas, volumes, centres and metacentres at each height, and how deep she floats."""

from hullafloat.batten import Batten, PARTS
from hullafloat.floating import least_height, record_volumes
from hullafloat.quotient import lowest_terms, shared_divisor

# Beyond this many whole heights it is not told how deep she floats.
GREATEST_RISE = 2000


class Hull:
    def __init__(self, places, heights, half_breadths):
        stations = len(places)
        lines = [
            Batten(places, half_breadths[level * stations:(level + 1) * stations])
            for level in range(len(heights))
        ]
        # All her levels' lines have their nails at the same places, so they share the first one's scale.
        self.share = PARTS * lines[0].scale
        self.places = list(places)
        self.lowest = heights[0]
        self.highest = heights[-1]
        # An integral along a batten's values is a sum of them, so the batten up through the levels' integrals
        # tells the integral at every height between. Both her sides count: hence twice.
        self.areas = Batten(heights, [2 * line.integral(places[-1]) for line in lines])
        self.levers = Batten(heights, [2 * line.moment(places[-1]) for line in lines])
        # A cube is no such sum: what needs it begins from her stations' battens.
        self.stations = [Batten(heights, half_breadths[station::stations]) for station in range(stations)]
        # Only loads ask for these, so they are left until loads come.
        self.records = None

    def spans(self, z):
        return self.lowest <= z and z <= self.highest

    def too_high(self):
        return self.highest - self.lowest > GREATEST_RISE

    def area(self, z):
        return lowest_terms(self.areas.value(z), self.areas.scale * self.share)

    def volume(self, z):
        return lowest_terms(self.areas.integral(z), self.volume_unit())

    # What areas.integral tells volumes in.
    def volume_unit(self):
        return PARTS * self.areas.scale * self.share

    def has_volume(self, z):
        return self.areas.integral(z) > 0

    # Only where she has volume. The moments and the volume are all times the same number, which falls out.
    def centre(self, z):
        volume = self.areas.integral(z)
        along = lowest_terms(self.levers.integral(z), volume)
        up = lowest_terms(self.areas.moment(z), volume)
        return along + up

    def metacentre(self, z):
        height = self.metacentre_terms(z)
        return lowest_terms(height[0], height[1])

    # By how much the metacentre lies above the height that lever by weight comes to.
    def stand(self, z, weight, lever):
        height = self.metacentre_terms(z)
        return lowest_terms(height[0] * weight - lever * height[1], height[1] * weight)

    # The metacentre's height as a quotient in any terms; only where she has volume.
    def metacentre_terms(self, z):
        volume = self.areas.integral(z)
        spread = self.spread_terms(z)
        above = self.areas.moment(z) * spread[1] + spread[0] * self.volume_unit()
        return [above, volume * spread[1]]

    # Two thirds of the integral of the half-breadth's cube along, at z, as a quotient in any terms.
    def spread_terms(self, z):
        scale = self.stations[0].scale
        half_breadths = [station.value(z) for station in self.stations]
        # At one height they seldom need all of the scale, and here it counts threefold.
        divisor = shared_divisor(half_breadths, scale)
        line = Batten(self.places, [half_breadth // divisor for half_breadth in half_breadths])
        return [2 * line.cube_integral(), 3 * PARTS * (line.scale * (scale // divisor)) ** 3]

    # The least whole height at which the volume is weight or more, None if there is none; weight is above 0.
    def floating_height(self, weight):
        if self.records is None:
            self.records = record_volumes(self.areas)
        return least_height(self.records, weight * self.volume_unit())
