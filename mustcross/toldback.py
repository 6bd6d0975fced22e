"""Codes told back from tables, or what is wrong with these."""

from mustcross.errors import BadTable
from mustcross.names import is_list, is_number
from mustcross.ringcodes import between, count_at, need_rim, rings_by


def is_table_form(thing):
    """Whether any object is a list of lists of numbers, each one fewer than all of them."""
    if not is_list(thing):
        return False
    return all([is_list(row) and len(row) == len(thing) - 1 and all([is_number(number) for number in row])
                for row in thing])


def first_wrong_side(table):
    """The first pin, and of it the first number of pins, that count otherwise than all others, else None."""
    many = len(table)
    for index in range(many):
        for inside in range(1, many):
            if count_at(table, index, inside) != count_at(table, (index + inside) % many, many - inside):
                return index, inside
    return None


def first_wrong_between(table):
    """The first two pins that would go on to one another less than never, else None."""
    for index in range(len(table)):
        for other in range(index + 1, len(table)):
            if between(table, index, other) < 0:
                return index, other
    return None


def table_fault(table):
    """Why any object is no board's table, None if it is one."""
    if not is_table_form(table):
        return ("form",)
    for index, row in enumerate(table):
        if row and row[0] not in (0, 1):
            return ("pin", index)
    side = first_wrong_side(table)
    if side is not None:
        return ("side", *side)
    pair = first_wrong_between(table)
    return None if pair is None else ("between", *pair)


def code_of(rim, table):
    """The code by which a table of a rim counts."""
    need_rim(rim)
    if table_fault(table) is not None or len(table) != len(rim):
        raise BadTable(table)
    return rings_by(rim, table)
