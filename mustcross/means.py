"""The points at which each place but pins is the mean of those tied to it."""

from math import gcd

from mustcross.points import corner, told_fraction


def mean_row(board, inner, place):
    """What a place's point has to fulfil: its row of factors, then both sums of pins' corners."""
    rim = board.rim()
    near = board.ties_of(place)
    row = [-1 if other in near else 0 for other in inner]
    row[inner.index(place)] = len(near)
    corners = [corner(rim.index(other)) for other in near if other in rim]
    return [*row, sum([point[0][0] for point in corners]), sum([point[1][0] for point in corners])]


def lessened(row):
    """A row of integers without what divides them all."""
    most = 0
    for number in row:
        most = gcd(most, number)
    return [number // most for number in row]


def cleared(row, pivot, column):
    """A row without its factor in a column, by another row."""
    return lessened([pivot[column] * number - row[column] * other for number, other in zip(row, pivot)])


def means(board, inner):
    """A dict from each inner place, all of them coming to pins by ties, to its point."""
    rows = [mean_row(board, inner, place) for place in inner]
    for column in range(len(inner)):
        # No pivot is 0: each place outweighs the inner ones that it is tied to.
        rows = [row if index == column else cleared(row, rows[column], column)
                for index, row in enumerate(rows)]
    return {place: (told_fraction(rows[index][-2], rows[index][index]),
                    told_fraction(rows[index][-1], rows[index][index]))
            for index, place in enumerate(inner)}
