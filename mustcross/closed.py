"""The closed board: the outside is a place, tied to all pins, and the rim is a ring."""

from mustcross.masks import near_masks
from mustcross.planar import is_plane, plane_rings
from mustcross.walks import OUTSIDE, from_least, turned_to


def closed_near(board):
    """A dict from each place of the closed board to the ascending list of its neighbours."""
    near = board.near()
    rim = board.rim()
    for index, pin in enumerate(rim):
        ahead = rim[index - 1]
        if pin != ahead and pin not in near[ahead]:
            near[ahead].append(pin)
            near[pin].append(ahead)
    near[OUTSIDE] = []
    for pin in rim:
        near[pin].append(OUTSIDE)
        near[OUTSIDE].append(pin)
    return {place: sorted(near[place]) for place in near}


def is_drawable(board):
    """Whether a board has a drawing."""
    return is_plane(near_masks(closed_near(board)))


def lies_turned(rim, ring):
    """Whether the outside's ring is the rim turned about; with fewer than three pins it is."""
    return len(rim) < 3 or turned_to(ring, rim[1])[1] == rim[0]


def drawn(board):
    """A drawing of a board, as it is told, None if there is none."""
    rings = plane_rings(closed_near(board))
    if rings is None:
        return None
    rim = board.rim()
    if not lies_turned(rim, rings[OUTSIDE]):
        rings = {place: ring[::-1] for place, ring in rings.items()}
    orders = {}
    for place in board.places():
        near = board.ties_of(place)
        if place in rim:
            row = turned_to(rings[place], OUTSIDE)
            orders[place] = [other for other in row if other in near]
        else:
            orders[place] = from_least(rings[place])
    return orders
