"""The desk: takes a list of calls on one new object and gives back what they answer."""

from hullafloat.hull import Hull
from hullafloat.loads import are_loads, lever
from hullafloat.table import NO_FAULT, first_fault

MAKE = 1
AREA = 2
VOLUME = 3
CENTRE = 4
META = 5
DEPTH = 6

# Of each call: how many whole numbers it has, and how many rows.
SHAPES = {1: (0, 3), 2: (1, 0), 3: (1, 0), 4: (1, 0), 5: (1, 0), 6: (0, 2), 7: (0, 2)}

NO_LOADS = -1
NO_TABLE = -3
OUTSIDE_LEVELS = -4
NO_VOLUME = -5
NO_HEIGHT = -5
BEYOND_DEPTHS = -9


class Desk:
    def __init__(self):
        self.hull = None

    def answer(self, call, numbers, rows):
        if call == MAKE:
            return self.make(rows[0], rows[1], rows[2])
        if self.hull is None:
            return [NO_TABLE]
        if call in (AREA, VOLUME, CENTRE, META):
            return answer_at(self.hull, call, numbers[0])
        return answer_loaded(self.hull, call, rows[0], rows[1])

    def make(self, places, heights, half_breadths):
        fault = first_fault(places, heights, half_breadths)
        if fault == NO_FAULT:
            self.hull = Hull(places, heights, half_breadths)
        return [0, fault[0], fault[1]]


def answer_at(hull, call, z):
    if not hull.spans(z):
        return [OUTSIDE_LEVELS]
    if call == AREA:
        return [0] + hull.area(z)
    if call == VOLUME:
        return [0] + hull.volume(z)
    if not hull.has_volume(z):
        return [NO_VOLUME]
    if call == CENTRE:
        return [0] + hull.centre(z)
    return [0] + hull.metacentre(z)


def answer_loaded(hull, call, weights, heights):
    if not are_loads(weights, heights):
        return [NO_LOADS]
    weight = sum(weights)
    if weight == 0 or hull.too_high():
        return [BEYOND_DEPTHS]
    z = hull.floating_height(weight)
    if z is None:
        return [NO_HEIGHT]
    if call == DEPTH:
        return [0, z]
    return [0] + hull.stand(z, weight, lever(weights, heights))


def answers(calls):
    desk = Desk()
    told = []
    at = 0
    while at < len(calls):
        call = calls[at]
        shape = SHAPES[call]
        first_row = at + 1 + shape[0]
        numbers = calls[at + 1:first_row]
        rows = read_rows(calls, first_row, shape[1])
        at = first_row + sum([1 + len(row) for row in rows])
        answer = desk.answer(call, numbers, rows)
        told.append(len(answer))
        told.extend(answer)
    return told


def read_rows(calls, at, count):
    rows = []
    for number in range(count):
        end = at + 1 + calls[at]
        rows.append(calls[at + 1:end])
        at = end
    return rows
