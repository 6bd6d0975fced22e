"""Ways without a common place, found one behind another.

Here a board is a dict, near, from each place to the list of its neighbours;
some and others are lists of its places.
"""

IN = 0
OUT = 1


def near_without(near, gone):
    """The dict without a place."""
    return {place: [other for other in near[place] if other != gone]
            for place in near if place != gone}


def come_to(near, some, barred):
    """A dict of the places of ways that begin in some and have no barred place."""
    seen = {place: True for place in some if place not in barred}
    rows = list(seen)
    at = 0
    while at < len(rows):
        here = rows[at]
        for place in near[here]:
            if place not in seen and place not in barred:
                seen[place] = True
                rows.append(place)
        at += 1
    return seen


def is_parted(near, some, others, barred):
    """Whether each way from some to others has a barred place."""
    seen = come_to(near, some, barred)
    return not any([place in seen for place in others])


def ahead_on(ways):
    """A dict from each place of the ways to the one ahead of it, None at a begin."""
    ahead = {}
    for way in ways:
        ahead[way[0]] = None
        for one, other in zip(way, way[1:]):
            ahead[other] = one
    return ahead


def next_steps(near, ahead, step):
    """Where a row can go on to from a step, which is a place and a side of it.

    A row comes into a place of no way, and goes out of it again; from a place
    of a way that it came into, it can but go back along that way; by this the
    places that it goes back over are set free, and it may leave the way.
    """
    place, side = step
    if side == OUT:
        steps = [(other, IN) for other in near[place]]
        if place in ahead:
            steps.append((place, IN))
        return steps
    if place not in ahead:
        return [(place, OUT)]
    if ahead[place] is None:
        return []
    return [(ahead[place], OUT)]


def rows_from(near, some, others, ways):
    """A dict from each step of rows to the step ahead, and the step at an end, None without one.

    All steps are there if no row comes to a place of others in which no way ends.
    """
    ahead = ahead_on(ways)
    come = {(place, IN): None for place in sorted(some)}
    rows = list(come)
    at = 0
    while at < len(rows):
        step = rows[at]
        if step[1] == OUT and step[0] in others:
            return come, step
        for other in next_steps(near, ahead, step):
            if other not in come:
                come[other] = step
                rows.append(other)
        at += 1
    return come, None


def row_to(come, step):
    """The steps of the row that comes to a step, by a dict from each to the one ahead, None at a begin."""
    row = []
    while step is not None:
        row.append(step)
        step = come[step]
    return row[::-1]


def one_way_more(near, some, others, ways):
    """Ways apart, one more than passed, ascending, None if these are as many as can be.

    They begin and end where those that are passed do, and in one place more each.
    """
    come, step = rows_from(near, some, others, ways)
    if step is None:
        return None
    row = row_to(come, step)
    behind = {}
    for way in ways:
        for one, other in zip(way, way[1:]):
            behind[one] = other
    for (one, side), (other, _) in zip(row, row[1:]):
        if one != other and side == OUT:
            behind[one] = other
        elif one != other:
            del behind[other]
    begins = [way[0] for way in ways]
    begins.append(row[0][0])
    return [way_on(behind, place) for place in sorted(begins)]


def way_on(behind, place):
    """The way that begins with a place, by a dict from each place to the next one."""
    way = [place]
    while way[-1] in behind:
        way.append(behind[way[-1]])
    return way


def apart_up_to(near, some, others, most):
    """Ways apart from some to others, as many as can be, but at most so many, ascending."""
    ways = []
    while len(ways) < most:
        more = one_way_more(near, some, others, ways)
        if more is None:
            return ways
        ways = more
    return ways


def most_apart(near, some, others):
    """Ways apart from some to others, as many as can be, ascending."""
    return apart_up_to(near, some, others, len(near))


def nearest_parting(near, some, others):
    """The least parting of some from others that is nearest to some, ascending."""
    come, _ = rows_from(near, some, others, most_apart(near, some, others))
    # A row that comes into such a place cannot come out of it.
    return sorted([place for place, side in come if side == IN and (place, OUT) not in come])
