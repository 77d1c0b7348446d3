"""Rooms: so many free places side by side, sought in a row and taken."""

from placerows.rows import NOWHERE, TAKE
from placerows.stretches import LAST_LONGEST, chosen, long_stretches


def take_room(row, n, way):
    """Take n free places of the stretch that way chooses; the first of them, or NOWHERE."""
    stretches = long_stretches(row, 0, n, way)
    if len(stretches) == 0:
        return NOWHERE
    stretch = chosen(stretches, way)
    place = stretch[0]
    if way == LAST_LONGEST:
        place = stretch[0] + stretch[1] - n
    row.change(place, n, TAKE)
    return place
