"""Faces, walked by rings round places; the outside is a place more, tied to all pins."""

from mustcross.masks import flooded, members, near_masks

OUTSIDE = "rim"


def turned_to(ring, place):
    """A ring, told from one of its places on."""
    at = ring.index(place)
    return ring[at:] + ring[:at]


def from_least(ring):
    """A ring, told from its least place on."""
    return turned_to(ring, min(ring)) if ring else []


def rings_with_outside(board, orders):
    """The rings round all places and round the outside, by the orders of a board's places."""
    rings = {place: list(orders[place]) for place in board.places()}
    for pin in board.rim():
        rings[pin] = [OUTSIDE, *rings[pin]]
    rings[OUTSIDE] = board.rim()[::-1]
    return rings


def steps_behind(rings):
    """A dict from each step to the one that follows it in its face."""
    behind = {}
    for place, ring in rings.items():
        for index, other in enumerate(ring):
            behind[(other, place)] = (place, ring[index + 1 - len(ring)])
    return behind


def walked_faces(rings):
    """The faces by such rings, each as the list of the places from which its steps lead."""
    behind = steps_behind(rings)
    seen = {}
    found = []
    for start in behind:
        step = start
        face = []
        while step not in seen:
            seen[step] = True
            face.append(step[0])
            step = behind[step]
        if face:
            found.append(face)
    return found


def due_faces(rings):
    """How many faces Euler counts, for each part with a tie."""
    near = near_masks(rings)
    left = (1 << len(near)) - 1
    due = 0
    while left:
        part = flooded(near, left & -left, left)
        ends = sum([len(members(near[index])) for index in members(part)])
        if ends:
            due += 2 - len(members(part)) + ends // 2
        left = left & ~part
    return due
