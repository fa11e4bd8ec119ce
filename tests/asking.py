"""Tables whose numbers can be worked out by hand, and the way to ask the program of a table."""

from hullafloat.desk import answers
from reference import make, split

BOX = ([0, 10], [0, 4], [3] * 4)
WEDGE = ([0, 10], [0, 4], [0, 0, 4, 4])
TAPER = ([0, 6], [0, 2], [0, 6, 0, 6])
# Along every level 0, 1, 0: (3t - t^3)/2 to the middle and the same way back.
BULGE = ([0, 1, 2], [0, 1], [0, 1, 0] * 2)
# Up each station 0, 0, 4: the bend at the middle is 3/2, so h^3/8 - h/2 below it and t + 3t^2/4 - t^3/8 above.
SWING = ([0, 10], [0, 2, 4], [0, 0, 0, 0, 4, 4])
# The same along every level.
SWING_ALONG = ([0, 2, 4], [0, 1], [0, 0, 4] * 2)
# Swing upside down: she displaces 70 at the middle level and only 60 at the last.
OVERFULL = ([0, 10], [0, 2, 4], [4, 4, 0, 0, 0, 0])
# Up each station 1, 0, 7: up to the middle level as much lies below 0 as above.
EVENED = ([0, 10], [0, 2, 4], [1, 1, 0, 0, 7, 7])
NOTHING = ([0, 10], [0, 4], [0] * 4)


def asked(table, *calls):
    """What the calls answer once the table is made."""
    flat = make(*table)
    for call in calls:
        flat = flat + call
    answered = split(answers(flat))
    if answered[0] != [0, 0, 0]:
        raise AssertionError(answered[0])
    return answered[1:]
