"""Stretches of the rim, told by their first and their last pin."""

from mustcross.errors import BadStretch, NoPin
from mustcross.walks import turned_to


def stretch_of(rim, first, last):
    """The list of the pins from first on to last, in the rim's order, round its end too."""
    turned = turned_to(rim, first)
    return turned[:turned.index(last) + 1]


def need_stretch(rim, first, last):
    """NoPin for first, last that is no pin, BadStretch where the stretch would have all pins."""
    for pin in (first, last):
        if pin not in rim:
            raise NoPin(pin)
    if len(stretch_of(rim, first, last)) == len(rim):
        raise BadStretch(first, last)


def all_stretches(rim):
    """The list of all stretches, each as the list of its pins."""
    doubled = rim + rim
    return [doubled[at:at + many] for at in range(len(rim)) for many in range(1, len(rim))]


def pins_outside(rim, stretch):
    """The list of the pins outside a stretch."""
    return [pin for pin in rim if pin not in stretch]
