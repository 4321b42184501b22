"""Least rows: the first in order, the shifts that begin one, and how many there are."""

from fewestshifts.maze import price_of

MODULUS = 1000000007


def least_price(prices, places):
    """The least price of these places; -1 if none has one."""
    known = [price_of(prices, place) for place in places if price_of(prices, place) >= 0]
    return min(known, default=-1)


def least_by_cell(prices, cell_count):
    """For each of the car's cells the least price of the places there; -1 if none has one."""
    return [min([row[cell] for row in prices if row[cell] >= 0], default=-1) for cell in range(cell_count)]


def first_least_row(maze, prices, places):
    """The first in order of all rows that lead from one of these places to price 0 by the fewest shifts.

    The places have the same holes, and one of them at least has a price.
    """
    price = least_price(prices, places)
    here = [place for place in places if price_of(prices, place) == price]
    row = []
    for left in range(price - 1, -1, -1):
        shift = min([cheaper_shifts(maze, prices, place)[0] for place in here])
        row.append(shift)
        here = [after for after in behind_shift(maze, here, shift) if price_of(prices, after) == left]
    return row


def behind_shift(maze, places, shift):
    """The places that the shift leads to from each of these."""
    behind = []
    for place in places:
        behind.extend([after for start, end, after in maze.steps(place) if (start, end) == shift])
    return behind


def cheaper_shifts(maze, prices, place):
    """The shifts, in order, that lead from a place that has a price to one that is one less."""
    wanted = price_of(prices, place) - 1
    if wanted < 0:
        return []
    return [(start, end) for start, end, after in maze.steps(place) if price_of(prices, after) == wanted]


def count_least_rows(maze, prices, place):
    """How many rows lead from a place that has a price to price 0 by the fewest shifts, modulo MODULUS."""
    counts = {place: 1}
    for left in range(price_of(prices, place) - 1, -1, -1):
        following = {}
        for here, count in counts.items():
            for start, end, after in maze.steps(here):
                if price_of(prices, after) == left:
                    following[after] = (following.get(after, 0) + count) % MODULUS
        counts = following
    return sum(counts.values()) % MODULUS
