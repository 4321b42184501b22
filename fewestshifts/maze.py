"""Places: how shifts lead from one to another, and the prices of all of them for a wish."""

MOST_HOLES = 3


class Maze:
    """All places of a plan with equally many holes.

    A place is the car's cell and the number of its row of holes; those rows are numbered in order,
    so places compare as the order of places asks. shifts holds, for each row of holes, the shifts
    from there in order, each with the number of the row of holes behind it.
    """

    def __init__(self, neighbours, hole_count):
        self.cell_count = len(neighbours)
        self.hole_count = hole_count
        self.masks = [mask_of(row) for row in rising_rows(self.cell_count, hole_count)]
        self.numbers = dict([(mask, number) for number, mask in enumerate(self.masks)])
        self.shifts = [self.shifts_from(neighbours, mask) for mask in self.masks]

    def shifts_from(self, neighbours, mask):
        shifts = []
        for start in range(self.cell_count):
            if mask >> start & 1 == 0:
                for end in neighbours[start]:
                    if mask >> end & 1 == 1:
                        after = mask ^ (1 << start) ^ (1 << end)
                        shifts.append((start, end, self.numbers[after]))
        return shifts

    def place(self, car, holes):
        return (car, self.numbers[mask_of(holes)])

    def place_told(self, numbers):
        """The place that the numbers tell; None if they tell none with as many holes."""
        if len(numbers) != 1 + self.hole_count or not is_place(self.cell_count, numbers[0], numbers[1:]):
            return None
        return self.place(numbers[0], numbers[1:])

    def tell(self, place):
        """The numbers that tell a place: the car's cell and the holes, rising."""
        return [place[0]] + cells_of(self.masks[place[1]])

    def all_places(self):
        """All places, in order."""
        listed = []
        for car in range(self.cell_count):
            listed.extend([(car, number) for number, mask in enumerate(self.masks) if mask >> car & 1 == 0])
        return listed

    def steps(self, place):
        """The shifts from a place in order, each as its two cells and the place it leads to."""
        car = place[0]
        return [(start, end, (end if start == car else car, after)) for start, end, after in self.shifts[place[1]]]

    def prices_for(self, goals, wanted):
        """The prices of all places for a wish: for each row of holes a list by the car's cell, -1 for none."""
        prices = [[-1] * self.cell_count for mask in self.masks]
        unpriced = [(1 << self.cell_count) - 1 - mask for mask in self.masks]
        layer = self.places_that_meet(goals, wanted)
        for number, cars in layer.items():
            unpriced[number] -= cars
        price = 0
        while layer:
            write_prices(prices, layer, price)
            # What a shift does, a shift undoes: so prices spread outwards from the places that meet the wish.
            layer = self.next_layer(layer, unpriced)
            price += 1
        return prices

    def places_that_meet(self, goals, wanted):
        """For the rows of holes with all wanted cells: the mask of the cars' cells that meet the wish."""
        goal_mask = mask_of(goals)
        wanted_mask = mask_of(wanted)
        layer = {}
        for number, mask in enumerate(self.masks):
            cars = goal_mask & ~mask
            if mask & wanted_mask == wanted_mask and cars != 0:
                layer[number] = cars
        return layer

    def meeting_places(self, goals, wanted):
        """The places that meet the wish, in order."""
        listed = []
        for number, cars in self.places_that_meet(goals, wanted).items():
            listed.extend([(car, number) for car in cells_of(cars)])
        return sorted(listed)

    def next_layer(self, layer, unpriced):
        """The unpriced places one shift away from the layer's; they are taken out of unpriced.

        All cars' cells with one row of holes are dealt with at once, as bits of one number.
        """
        following = {}
        for number, cars in layer.items():
            for start, end, after in self.shifts[number]:
                moved = cars
                if cars >> start & 1 == 1:
                    moved = cars ^ (1 << start) ^ (1 << end)
                moved &= unpriced[after]
                if moved != 0:
                    unpriced[after] -= moved
                    following[after] = following.get(after, 0) | moved
        return following


def is_place(cell_count, car, holes):
    if not 1 <= len(holes) <= MOST_HOLES or car in holes:
        return False
    if any([cell >= cell_count for cell in [car] + holes]):
        return False
    return holes == sorted(set(holes))


def mask_of(cells):
    mask = 0
    for cell in cells:
        mask |= 1 << cell
    return mask


def cells_of(mask):
    return [cell for cell in range(mask.bit_length()) if mask >> cell & 1 == 1]


def rising_rows(cell_count, length):
    """All rising rows of so many cells, in order."""
    rows = [()]
    for step in range(length):
        longer = []
        for row in rows:
            least = row[step - 1] + 1 if step > 0 else 0
            longer.extend([row + (cell,) for cell in range(least, cell_count)])
        rows = longer
    return rows


def write_prices(prices, layer, price):
    for number, cars in layer.items():
        for cell in cells_of(cars):
            prices[number][cell] = price


def price_of(prices, place):
    return prices[place[1]][place[0]]
