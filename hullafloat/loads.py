"""Loads: whether two lists are loads, and what they come to."""

from hullafloat.table import GREATEST_MEASURE

MOST_LOADS = 256
GREATEST_WEIGHT = 18446744073709551615


def are_loads(weights, heights):
    if len(weights) != len(heights) or len(weights) > MOST_LOADS:
        return False
    return all_within(weights, 0, GREATEST_WEIGHT) and all_within(heights, -GREATEST_MEASURE, GREATEST_MEASURE)


def all_within(row, least, greatest):
    return all([least <= number and number <= greatest for number in row])


# The sum of weights times heights: the loads' height, times their weight.
def lever(weights, heights):
    return sum([weights[k] * heights[k] for k in range(len(weights))])
