"""Codes of rims: in which rings the pins go on, and how stretches count by them."""

from mustcross.errors import BadCode, BadRim
from mustcross.names import first_unknown, first_wrong_name, is_list


def need_rim(rim):
    """BadRim for the first thing that makes a list none of unlike names."""
    index = first_wrong_name(rim)
    if index is not None:
        raise BadRim(index)


def is_told_ring(ring):
    """Whether pins are told from the least one on, towards the lesser of its two neighbours."""
    return ring[0] == min(ring) and (len(ring) < 3 or ring[1] < ring[-1])


def is_code_of(rim, thing):
    """Whether any object is a code of a rim, as it is told."""
    if not is_list(thing) or not all([is_list(ring) and bool(ring) for ring in thing]):
        return False
    pins = [pin for ring in thing for pin in ring]
    if first_unknown(pins, rim) is not None or len(pins) != len(rim):
        return False
    firsts = [ring[0] for ring in thing]
    return firsts == sorted(firsts) and all([is_told_ring(ring) for ring in thing])


def need_code(rim, thing):
    """BadRim for what is no rim, BadCode for what is no code of it."""
    need_rim(rim)
    if not is_code_of(rim, thing):
        raise BadCode(thing)


def next_pins(rings):
    """A dict from each pin of a code to the one to which it goes on."""
    return {pin: ring[index + 1 - len(ring)] for ring in rings for index, pin in enumerate(ring)}


def count_on(rings, stretch):
    """How many pins of a stretch go on to a pin outside it."""
    onward = next_pins(rings)
    return len([pin for pin in stretch if onward[pin] not in stretch])


def count_at(table, at, many):
    """What a table tells of so many pins from one on: 0 of none, and of all."""
    if many == 0 or many == len(table):
        return 0
    return table[at][many - 1]


def between(table, one, other):
    """How often two pins, told by their places on the rim, the first one first, go on to one another."""
    many = other - one
    return (count_at(table, one, many) + count_at(table, one + 1, many)
            - count_at(table, one + 1, many - 1) - count_at(table, one, many + 1))


def ring_from(near, pin):
    """The ring of its least pin, by a dict from each pin to the ascending list of those beside it."""
    ring = []
    here = [pin]
    while here:
        ring.append(here[0])
        here = [other for other in near[here[0]] if other not in ring]
    return ring


def rings_by(rim, table):
    """The code by which the table of a rim counts."""
    near = {pin: [] for pin in sorted(rim)}
    for index, pin in enumerate(rim):
        for at in range(index + 1, len(rim)):
            if between(table, index, at) > 0:
                near[pin].append(rim[at])
                near[rim[at]].append(pin)
    near = {pin: sorted(near[pin]) for pin in near}
    rings = []
    done = {}
    for pin in near:
        if pin not in done:
            rings.append(ring_from(near, pin))
            for other in rings[-1]:
                done[other] = True
    return rings
