"""The least whole height at which a volume is reached, found among the heights that surpass all below them."""

from hullafloat.batten import piece_integral


# Each whole height whose volume is above 0 and above that of every whole height below it, with that volume, times
# PARTS and the scale of areas. Where battens swing below 0 the volume falls again; she floats further down then, so
# those heights are left out.
def record_volumes(areas):
    records = []
    greatest = 0
    below = 0
    for k in range(len(areas.pieces)):
        low = areas.nails[k]
        gap = areas.nails[k + 1] - low
        for reach in range(1, gap + 1):
            volume = below + piece_integral(areas.pieces[k], reach)
            if volume > greatest:
                greatest = volume
                records.append((low + reach, volume))
        below += piece_integral(areas.pieces[k], gap)
    return records


# The first height of the records whose volume is the goal or more; None if there is none.
def least_height(records, goal):
    start = 0
    end = len(records)
    while start < end:
        middle = (start + end) // 2
        if records[middle][1] >= goal:
            end = middle
        else:
            start = middle + 1
    if start == len(records):
        return None
    return records[start][0]
