"""What the tests measure the program by: battens from their definition alone, and calls put into a list.

Nothing here is drawn from the package, and the ways differ from the package's: a batten is the one solution of
all its conditions at once, its integrals are rules that are exact for its degree, and a half-breadth at a height
is taken from the stations' battens first.
"""

from fractions import Fraction

GREATEST = 1048575
LEAST_ARGUMENT = -18446744073709551616
GREATEST_ARGUMENT = 36893488147419103231


def make(places, heights, half_breadths):
    return [1, len(places), *places, len(heights), *heights, len(half_breadths), *half_breadths]


def area(z):
    return [2, z]


def volume(z):
    return [3, z]


def centre(z):
    return [4, z]


def meta(z):
    return [5, z]


def depth(weights, heights):
    return [6, len(weights), *weights, len(heights), *heights]


def stand(weights, heights):
    return [7, len(weights), *weights, len(heights), *heights]


def split(answered):
    """The answers one by one, each without its count."""
    parts = []
    at = 0
    while at < len(answered):
        end = at + 1 + answered[at]
        parts.append(answered[at + 1:end])
        at = end
    return parts


def solve(rows):
    """The solution of rows of coefficients, each a dict by column, the right side under None."""
    rows = [dict(row) for row in rows]
    for column in range(len(rows)):
        pivot = next(k for k in range(column, len(rows)) if rows[k].get(column, 0) != 0)
        rows[column], rows[pivot] = rows[pivot], rows[column]
        head = rows[column]
        lead = head[column]
        head = rows[column] = {key: number / lead for key, number in head.items()}
        for k, row in enumerate(rows):
            factor = row.get(column, 0)
            if k == column or factor == 0:
                continue
            for key, number in head.items():
                left = row.get(key, 0) - factor * number
                if left == 0 and key is not None:
                    row.pop(key, None)
                else:
                    row[key] = left
    return [row.get(None, Fraction(0)) for row in rows]


def batten_conditions(xs, ys):
    """The conditions of the batten's cubics a + b t + c t^2 + d t^3, t from each piece's first nail."""
    rows = []
    last = len(xs) - 2
    for k in range(last + 1):
        gap = Fraction(xs[k + 1] - xs[k])
        a, b, c, d = range(4 * k, 4 * k + 4)
        rows.append({a: Fraction(1), None: Fraction(ys[k])})
        rows.append({a: Fraction(1), b: gap, c: gap ** 2, d: gap ** 3, None: Fraction(ys[k + 1])})
        if k < last:
            rows.append({b: Fraction(1), c: 2 * gap, d: 3 * gap ** 2, b + 4: Fraction(-1), None: Fraction(0)})
            rows.append({c: Fraction(2), d: 6 * gap, c + 4: Fraction(-2), None: Fraction(0)})
    rows.append({2: Fraction(2), None: Fraction(0)})
    gap = Fraction(xs[-1] - xs[-2])
    rows.append({4 * last + 2: Fraction(2), 4 * last + 3: 6 * gap, None: Fraction(0)})
    return rows


class Batten:
    def __init__(self, xs, ys):
        self.xs = xs
        self.coefficients = solve(batten_conditions(xs, ys))

    def at(self, x):
        k = 0
        while k + 2 < len(self.xs) and self.xs[k + 1] < x:
            k += 1
        t = Fraction(x) - self.xs[k]
        return sum(self.coefficients[4 * k + power] * t ** power for power in range(4))


def boole(function, start, end):
    """The integral, exactly, of anything up to the fifth power."""
    quarter = Fraction(end - start) / 4
    weights = (7, 32, 12, 32, 7)
    total = sum(weight * function(start + k * quarter) for k, weight in enumerate(weights))
    return total * (end - start) / 90


def nine_points(function, start, end):
    """The integral, exactly, of anything up to the ninth power."""
    eighth = Fraction(end - start) / 8
    weights = (989, 5888, -928, 10496, -4540, 10496, -928, 5888, 989)
    total = sum(weight * function(start + k * eighth) for k, weight in enumerate(weights))
    return total * (end - start) / 28350


def stretches(marks, end):
    """The stretches between the marks up to end."""
    return [(low, min(high, end)) for low, high in zip(marks, marks[1:]) if low < end]


class Hull:
    def __init__(self, places, heights, half_breadths):
        self.places = places
        self.heights = heights
        width = len(places)
        self.stations = [Batten(heights, half_breadths[k::width]) for k in range(width)]
        self.waterlines = {}

    def waterline(self, z):
        if z not in self.waterlines:
            self.waterlines[z] = Batten(self.places, [station.at(z) for station in self.stations])
        return self.waterlines[z]

    def area(self, z):
        line = self.waterline(z)
        return 2 * sum(boole(line.at, low, high) for low, high in stretches(self.places, self.places[-1]))

    def lever(self, z):
        line = self.waterline(z)
        return 2 * sum(boole(lambda x: x * line.at(x), low, high)
                       for low, high in stretches(self.places, self.places[-1]))

    def upward(self, function, z):
        return sum(boole(function, low, high) for low, high in stretches(self.heights, z))

    def volume(self, z):
        return self.upward(self.area, z)

    def centre(self, z):
        volume = self.volume(z)
        if volume <= 0:
            return None
        return (self.upward(self.lever, z) / volume, self.upward(lambda h: h * self.area(h), z) / volume)

    def cubes(self, z):
        line = self.waterline(z)
        return sum(nine_points(lambda x: line.at(x) ** 3, low, high)
                   for low, high in stretches(self.places, self.places[-1]))

    def metacentre(self, z):
        volume = self.volume(z)
        if volume <= 0:
            return None
        return self.centre(z)[1] + Fraction(2, 3) * self.cubes(z) / volume


def told(quotient):
    quotient = Fraction(quotient)
    return [quotient.numerator, quotient.denominator]


def expected(hull, z):
    """The answers of area, volume, centre and meta at z."""
    middle = hull.centre(z)
    metacentre = hull.metacentre(z)
    return [
        [0, *told(hull.area(z))],
        [0, *told(hull.volume(z))],
        [-5] if middle is None else [0, *told(middle[0]), *told(middle[1])],
        [-5] if metacentre is None else [0, *told(metacentre)],
    ]


def scattered(seed, count, limit):
    """Whole numbers from 0 below limit, the same every time."""
    numbers = []
    for number in range(count):
        seed = (seed * 6364136223846793005 + 1442695040888963407) % 2 ** 64
        numbers.append((seed >> 33) % limit)
    return numbers


def rising(seed, count, first, widest):
    row = [first]
    for step in scattered(seed, count - 1, widest):
        row.append(row[-1] + 1 + step)
    return row
