"""Whether three lists are a table, and if not, what is wrong with them first."""

GREATEST_MEASURE = 1048575
NO_FAULT = (0, 0)


# The kind and the number that make answers.
def first_fault(places, heights, half_breadths):
    if len(places) < 2 or len(places) > 24:
        return (2, 0)
    if len(heights) < 2 or len(heights) > 16:
        return (2, 1)
    if len(half_breadths) != len(places) * len(heights):
        return (1, len(half_breadths))
    wrong_place = first_not_rising(places, 0)
    if wrong_place is not None:
        return (3, wrong_place)
    wrong_height = first_not_rising(heights, -GREATEST_MEASURE)
    if wrong_height is not None:
        return (4, wrong_height)
    wrong_breadth = first_outside(half_breadths)
    if wrong_breadth is not None:
        return (5, wrong_breadth)
    return NO_FAULT


def first_not_rising(row, least):
    # The first number has none before it: it must only lie above what is one too low.
    before = least - 1
    for number in range(len(row)):
        if row[number] <= before or row[number] > GREATEST_MEASURE:
            return number
        before = row[number]
    return None


def first_outside(row):
    for number in range(len(row)):
        if row[number] < 0 or row[number] > GREATEST_MEASURE:
            return number
    return None
