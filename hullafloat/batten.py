"""The batten through nails at whole numbers, kept exactly: whole numbers over one number that all share.

With gaps g between the nails and a sixth of the bend at nail k called m[k], the cubics meet with one slope where
    g[k-1] m[k-1] + 2 (g[k-1] + g[k]) m[k] + g[k] m[k+1] = (slope of chord k) - (slope of chord k-1),
and m is 0 at both ends. The rows are solved without a fraction: by Cramer's rule the answers, times the
determinant, are whole numbers, so every division below leaves no rest.
"""

from hullafloat.quotient import least_multiple

# What every integral here is told in: the least number that 1 to 10 divide, for the cube of a cubic.
PARTS = 2520


# Battens whose nails stand at the same places share one scale, whatever their values: sums of them need no other.
class Batten:
    def __init__(self, xs, ys):
        gaps = [xs[k + 1] - xs[k] for k in range(len(xs) - 1)]
        multiple = least_multiple(gaps)
        minors = leading_minors(gaps)
        bends = scaled_bends(gaps, minors, chord_turns(gaps, ys, multiple))
        self.nails = list(xs)
        self.scale = minors[-1] * multiple * multiple
        self.pieces = [
            cubic(gaps[k], multiple, self.scale, [ys[k], ys[k + 1]], [bends[k], bends[k + 1]])
            for k in range(len(gaps))
        ]

    # The value at x, times scale.
    def value(self, x):
        k = 0
        while k + 1 < len(self.pieces) and self.nails[k + 1] <= x:
            k += 1
        total = 0
        for coefficient in reversed(self.pieces[k]):
            total = total * (x - self.nails[k]) + coefficient
        return total

    # The integral of the values from the first nail to x, times PARTS and scale.
    def integral(self, x):
        return swept(self.nails, self.pieces, x)

    # The integral of place times value from the first nail to x, times PARTS and scale.
    def moment(self, x):
        # A piece counts from its own nail: the place is the nail's and the distance from it.
        levered = [product(self.pieces[k], [self.nails[k], 1]) for k in range(len(self.pieces))]
        return swept(self.nails, levered, x)

    # The integral of the values' cubes from the first nail to the last, times PARTS and the cube of scale.
    def cube_integral(self):
        return sum([
            piece_cube_integral(self.pieces[k], self.nails[k + 1] - self.nails[k])
            for k in range(len(self.pieces))
        ])


# The determinants of the first 0, 1, 2 .. rows; all are above 0, as each row's middle outweighs its sides.
def leading_minors(gaps):
    minors = [1]
    before = 0
    for k in range(1, len(gaps)):
        minor = 2 * (gaps[k - 1] + gaps[k]) * minors[k - 1] - gaps[k - 1] * gaps[k - 1] * before
        before = minors[k - 1]
        minors.append(minor)
    return minors


# The rows' right sides, times multiple; the one at 0 only keeps the numbering.
def chord_turns(gaps, ys, multiple):
    slopes = [(ys[k + 1] - ys[k]) * (multiple // gaps[k]) for k in range(len(gaps))]
    turns = [0]
    for k in range(1, len(gaps)):
        turns.append(slopes[k] - slopes[k - 1])
    return turns


# A sixth of the bend at each nail, times the determinant and what the turns are multiplied by.
def scaled_bends(gaps, minors, turns):
    # reduced[k] is what minors[k] m[k] + minors[k-1] g[k] m[k+1] comes to.
    reduced = [0]
    for k in range(1, len(gaps)):
        reduced.append(minors[k - 1] * turns[k] - gaps[k - 1] * reduced[k - 1])
    bends = [0] * (len(gaps) + 1)
    for k in range(len(gaps) - 1, 0, -1):
        rest = minors[-1] * reduced[k] - minors[k - 1] * gaps[k] * bends[k + 1]
        bends[k] = rest // minors[k]
    return bends


# The four coefficients between two nails, lowest power first, in the distance from the first of them, times scale.
def cubic(gap, multiple, scale, ys, bends):
    return [
        ys[0] * scale,
        (ys[1] - ys[0]) * (scale // gap) - gap * multiple * (2 * bends[0] + bends[1]),
        3 * multiple * bends[0],
        (bends[1] - bends[0]) * (multiple // gap),
    ]


def swept(nails, pieces, x):
    total = 0
    for k in range(len(pieces)):
        if nails[k] < x:
            total += piece_integral(pieces[k], min(x, nails[k + 1]) - nails[k])
    return total


def piece_integral(piece, reach):
    total = 0
    power = reach
    for k in range(len(piece)):
        total += piece[k] * power * (PARTS // (k + 1))
        power *= reach
    return total


# Over the whole gap to the next nail.
def piece_cube_integral(piece, gap):
    stretched = in_gaps(piece, gap)
    squares = product(stretched, stretched)
    total = 0
    for k in range(len(stretched)):
        total += stretched[k] * sum([squares[n] * (PARTS // (n + k + 1)) for n in range(len(squares))])
    return total * gap


# The piece with its gap as the unit of length: every power of the distance is 1 at the next nail.
def in_gaps(piece, gap):
    stretched = []
    power = 1
    for coefficient in piece:
        stretched.append(coefficient * power)
        power *= gap
    return stretched


# The coefficients of the product of two polynomials, lowest power first.
def product(first, second):
    coefficients = [0] * (len(first) + len(second) - 1)
    for k in range(len(first)):
        for n in range(len(second)):
            coefficients[k + n] += first[k] * second[n]
    return coefficients
