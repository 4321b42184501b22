"""Plans: a text's first fault, and the cells, cabins and neighbours that a text without one tells."""

LINE_END = 10
MOST_NAME_BYTES = 12
MOST_FLOORS = 4
MOST_ROWS = 8
MOST_SIGNS = 8
MOST_CELLS = 20
MOST_CABINS = 4


class Plan:
    """A plan's cells, by their numbers: how many, those with a cabin, and each one's neighbours, rising."""

    def __init__(self, floors):
        squares = cell_squares(floors)
        self.cell_count = len(squares)
        self.cabins = [cell for cell, square in enumerate(squares) if sign_at(floors, square) == ord("C")]
        self.neighbours = [neighbours_of(floors, squares, square) for square in squares]


def read_plan(text):
    """The plan and an empty list; or None and the kind and the line of the text's first fault."""
    lines = split_lines(text)
    rest = lines.pop()
    floors = []
    for number, line in enumerate(lines):
        kind = line_fault(floors, number, line)
        if kind != 0:
            return (None, [kind, number])
        if line == codes("floor"):
            floors.append([])
        elif number > 0:
            floors[-1].append(line)
    kind = end_fault(floors, rest)
    if kind != 0:
        return (None, [kind, len(lines)])
    return (Plan(floors), [])


def split_lines(text):
    """The lines, each without its line end; last of all what stands behind the last line end."""
    lines = []
    line = []
    for byte in text:
        if byte == LINE_END:
            lines.append(line)
            line = []
        else:
            line.append(byte)
    lines.append(line)
    return lines


def codes(word):
    return [ord(sign) for sign in word]


def line_fault(floors, number, line):
    """The least kind of fault at this line, behind faultless lines with these floors; 0 if there is none."""
    if number == 0:
        return 0 if is_heading(line) else 1
    if line == codes("floor"):
        return floor_fault(floors)
    if is_row(line):
        return row_fault(floors, line)
    return 1


def is_heading(line):
    return line[:5] == codes("park ") and is_name(line[5:])


def is_name(name):
    if not 1 <= len(name) <= MOST_NAME_BYTES or not is_small_letter(name[0]):
        return False
    return all([is_small_letter(byte) or ord("0") <= byte <= ord("9") for byte in name])


def is_small_letter(byte):
    return ord("a") <= byte <= ord("z")


def is_row(line):
    return len(line) > 0 and all([sign in codes("#.CL") for sign in line])


def floor_fault(floors):
    if floors and not floors[-1]:
        return 1
    if has_too_few_rows(floors):
        return 3
    if len(floors) == MOST_FLOORS:
        return 4
    return 0


def row_fault(floors, row):
    if not floors:
        return 1
    first_floor = floors[0]
    if first_floor and len(row) != len(first_floor[0]):
        return 2
    if len(floors) > 1 and len(floors[-1]) == len(first_floor):
        return 3
    if len(row) > MOST_SIGNS or len(first_floor) == MOST_ROWS and len(floors) == 1:
        return 4
    if len(cell_squares(floors)) + len(cell_squares([[row]])) > MOST_CELLS:
        return 4
    return 0


def has_too_few_rows(floors):
    """Whether the last floor has fewer rows than the first."""
    return len(floors) > 0 and len(floors[-1]) < len(floors[0])


def end_fault(floors, rest):
    """The least kind of fault that is told as the line behind the last; 0 if there is none."""
    if rest or not floors or not floors[-1]:
        return 1
    if has_too_few_rows(floors):
        return 3
    plan = Plan(floors)
    if not 1 <= len(plan.cabins) <= MOST_CABINS:
        return 5
    if not hangs_together(plan.neighbours):
        return 6
    return 0


def cell_squares(floors):
    """Floor, row and place in the row of each cell, in the order of the cells' numbers."""
    squares = []
    for level, floor in enumerate(floors):
        for line, row in enumerate(floor):
            squares.extend([(level, line, at) for at, sign in enumerate(row) if sign != ord("#")])
    return squares


def sign_at(floors, square):
    return floors[square[0]][square[1]][square[2]]


def neighbours_of(floors, squares, square):
    return [cell for cell, other in enumerate(squares) if are_neighbours(floors, square, other)]


def are_neighbours(floors, one, other):
    if one[0] == other[0]:
        return abs(one[1] - other[1]) + abs(one[2] - other[2]) == 1
    if abs(one[0] - other[0]) != 1 or one[1:] != other[1:]:
        return False
    return sign_at(floors, one) == ord("L") and sign_at(floors, other) == ord("L")


def hangs_together(neighbours):
    """Whether ways lead from cell 0 to every cell; there is a cell 0."""
    reached = {0: True}
    waiting = [0]
    while waiting:
        here = waiting.pop()
        for cell in neighbours[here]:
            if cell not in reached:
                reached[cell] = True
                waiting.append(cell)
    return len(reached) == len(neighbours)
