"""Rings round places by which their ties lie in the plane, none crossing.

Places are numbers here, near is the list of the masks of their neighbours.
A block is laid ring by ring: what is not laid yet falls into bridges, each with
the lot by which it is attached to what is laid; a bridge goes into a face that
has all of this lot, one that fits into one face alone first, way by way.
"""

from mustcross.blocks import all_blocks
from mustcross.masks import flooded, lowest, mask_of, members, near_masks, way_in


def way_by(near, start, inner, goals):
    """A shortest way from a place to one of a lot, over one or more places of inner."""
    ahead = 0
    for place in members(goals):
        ahead = ahead | near[place]
    way = way_in(near, near[start] & inner, ahead, inner)
    return [start, *way, lowest(near[way[-1]] & goals)]


def way_of_bridge(near, attached, inner):
    """A way over a bridge from the least place that it is attached to, to another one."""
    start = lowest(attached)
    goals = attached & ~(1 << start)
    if not inner:
        return [start, lowest(goals)]
    return way_by(near, start, inner, goals)


def inner_bridges(near, inner, laid):
    """The bridges with places of their own, as pairs (attached, inner)."""
    found = []
    while inner:
        part = flooded(near, inner & -inner, inner)
        attached = 0
        for place in members(part):
            attached = attached | near[place] & laid
        found.append((attached, part))
        inner = inner & ~part
    return found


def tie_bridges(near, row, laid, steps):
    """The bridges that are ties of a row's places to laid ones, but for the steps of the row."""
    found = []
    done = 0
    for place in row:
        done = done | 1 << place
        for other in members(near[place] & laid & ~done & ~steps[place]):
            found.append((1 << place | 1 << other, 0))
    return found


def steps_of(row):
    """A dict from each place of a row to the lot of those beside it."""
    steps = {place: 0 for place in row}
    for one, other in zip(row, row[1:]):
        steps[one] = steps[one] | 1 << other
        steps[other] = steps[other] | 1 << one
    return steps


def split_face(face, way):
    """The two faces into which a way, from one place of a face to another, splits it."""
    at = face.index(way[0])
    turned = face[at:] + face[:at]
    at = turned.index(way[-1])
    return turned[:at] + way[:0:-1], way[:-1] + turned[at:]


def tightest(bridges):
    """The index of a bridge that fits into the fewest faces."""
    best = 0
    for index, bridge in enumerate(bridges):
        if len(bridge[2]) < 2:
            return index
        if len(bridge[2]) < len(bridges[best][2]):
            best = index
    return best


def fitting(attached, indexes, masks):
    """Those of the faces that have all of a lot."""
    return [index for index in indexes if not attached & ~masks[index]]


def first_ring(near, block):
    """A ring of a block of three places or more."""
    start = lowest(block)
    other = lowest(near[start])
    return way_by(near, start, block & ~(1 << start | 1 << other), 1 << other)


def first_bridges(near, block, ring):
    """The bridges of a block of which a ring is laid, each with its two faces."""
    laid = mask_of(ring)
    found = tie_bridges(near, ring, laid, steps_of([*ring, ring[0]]))
    found.extend(inner_bridges(near, block & ~laid, laid))
    return [(attached, inner, [0, 1]) for attached, inner in found]


def block_faces(near, block):
    """The faces of a block that is laid in the plane, None if it cannot be."""
    near = [mask & block for mask in near]
    if len(members(block)) == 2:
        return [members(block)]
    ring = first_ring(near, block)
    faces = [ring, ring[::-1]]
    masks = [mask_of(ring), mask_of(ring)]
    bridges = first_bridges(near, block, ring)
    while bridges:
        attached, inner, fits = bridges.pop(tightest(bridges))
        if not fits:
            return None
        way = way_of_bridge(near, attached, inner)
        split = (fits[0], len(faces))
        faces[split[0]], half = split_face(faces[split[0]], way)
        faces.append(half)
        masks[split[0]] = mask_of(faces[split[0]])
        masks.append(mask_of(half))
        bridges = refitted(bridges, split, masks)
        own = way[1:-1]
        fresh = tie_bridges(near, own, attached | mask_of(own), steps_of(way))
        fresh.extend(inner_bridges(near, inner & ~mask_of(own), attached | mask_of(own)))
        bridges.extend([(lot, part, fitting(lot, split, masks)) for lot, part in fresh])
    return faces


def refitted(bridges, split, masks):
    """The bridges when a face is split in two: what fitted into it may fit into either."""
    found = []
    for attached, inner, fits in bridges:
        if split[0] in fits:
            others = [index for index in fits if index != split[0]]
            found.append((attached, inner, others + fitting(attached, split, masks)))
        else:
            found.append((attached, inner, fits))
    return found


def add_rings(rings, faces):
    """Adds to the rings of all places their rings in one block, told by its faces."""
    behind = {}
    firsts = {}
    for face in faces:
        for index, place in enumerate(face):
            behind[(place, face[index - 1])] = face[index + 1 - len(face)]
            firsts[place] = face[index - 1]
    for place, first in firsts.items():
        rings[place].append(first)
        while behind[(place, rings[place][-1])] != first:
            rings[place].append(behind[(place, rings[place][-1])])


def is_too_full(near):
    """Whether there are more ties than can lie in the plane."""
    many = sum([len(members(mask)) for mask in near]) // 2
    return len(near) > 2 and many > 3 * len(near) - 6


def faces_by_blocks(near):
    """The list of the faces of each block, None if some block cannot be laid in the plane."""
    if is_too_full(near):
        return None
    found = []
    for block in all_blocks(near):
        faces = block_faces(near, block)
        if faces is None:
            return None
        found.append(faces)
    return found


def is_plane(near):
    """Whether the ties can be laid in the plane."""
    return faces_by_blocks(near) is not None


def plane_rings(near):
    """A dict from each place of a dict of neighbours to its ring, None if there are none.

    The step from one place to another is followed, in a face, by the step to
    the place behind the one in the other's ring.
    """
    masks = near_masks(near)
    blocks = faces_by_blocks(masks)
    if blocks is None:
        return None
    rings = [[] for _ in masks]
    for faces in blocks:
        add_rings(rings, faces)
    places = list(near)
    return {places[index]: [places[other] for other in ring] for index, ring in enumerate(rings)}
