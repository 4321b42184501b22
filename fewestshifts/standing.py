"""Standings: why numbers are none, which cells are empty, and what shifts make of one."""

MOST_PALLET = 99
MOST_EMPTY = 3


def why_no_standing(cell_count, numbers):
    """The least reason why the numbers are no standing; 0 if they are one."""
    pallets = [number for number in numbers if number != 0]
    if len(numbers) != cell_count:
        return 1
    if any([pallet > MOST_PALLET for pallet in pallets]):
        return 2
    if len(set(pallets)) != len(pallets):
        return 3
    if not 1 <= len(numbers) - len(pallets) <= MOST_EMPTY:
        return 4
    return 0


def empty_cells(standing):
    """The empty cells, rising."""
    return [cell for cell, pallet in enumerate(standing) if pallet == 0]


def is_row_of_shifts(cell_count, numbers):
    return len(numbers) % 2 == 0 and all([cell < cell_count for cell in numbers])


def shifts_of(numbers):
    """The shifts that a row of numbers tells, each a cell and a cell."""
    return [(numbers[at], numbers[at + 1]) for at in range(0, len(numbers), 2)]


def can_be_done(neighbours, standing, shift):
    return shift[1] in neighbours[shift[0]] and standing[shift[0]] != 0 and standing[shift[1]] == 0


def standings_along(neighbours, standing, shifts):
    """The standing, and the one behind each shift, up to the first shift that can't be done."""
    along = [list(standing)]
    for shift in shifts:
        if not can_be_done(neighbours, along[-1], shift):
            break
        after = list(along[-1])
        after[shift[1]] = after[shift[0]]
        after[shift[0]] = 0
        along.append(after)
    return along
