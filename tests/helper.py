"""What the tests share: calls written as lists of numbers, and slow answers found another way."""

import itertools

from fewestshifts.hall import answers

GREATEST = 4294967295
MODULUS = 1000000007


def codes(text):
    return [ord(sign) for sign in text]


def park(*floors):
    """A plan's text: each floor is its rows, with a blank between two."""
    lines = ["park a"]
    for floor in floors:
        lines += ["floor"] + floor.split()
    return "".join(line + "\n" for line in lines)


def call(number, *parts):
    numbers = [number]
    for part in parts:
        numbers += [len(part)] + list(part) if isinstance(part, (list, tuple)) else [part]
    return numbers


def load(text):
    return call(0, codes(text) if isinstance(text, str) else text)


def stand(numbers):
    return call(1, numbers)


def told():
    return call(2)


def near(cell):
    return call(3, cell)


def run(numbers):
    return call(4, numbers)


def fetch(pallets, goals=(), free=()):
    return call(5, pallets, goals, free)


def go(pallets, goals=(), free=()):
    return call(6, pallets, goals, free)


def firsts(pallet, goals=(), free=()):
    return call(7, pallet, goals, free)


def ways(pallet, goals=(), free=()):
    return call(8, pallet, goals, free)


def weigh(pallet, goals, free, row):
    return call(9, pallet, goals, free, row)


def price_all(goals=(), free=()):
    return call(10, goals, free)


def ask(*calls):
    """The answers to calls on one object, each a list of its own."""
    numbers = answers(list(itertools.chain(*calls)))
    split = []
    while numbers:
        split.append(numbers[1:1 + numbers[0]])
        if len(split[-1]) != numbers[0]:
            raise AssertionError("an answer is shorter than its count")
        numbers = numbers[1 + numbers[0]:]
    if len(split) != len(calls):
        raise AssertionError("not as many answers as calls")
    return split


def ask_last(*calls):
    return ask(*calls)[-1]


def pairs(numbers):
    return list(zip(numbers[::2], numbers[1::2]))


def flat(shifts):
    return [cell for shift in shifts for cell in shift]


class Yard:
    """A plan read and searched without the package: standings are whole, with every pallet told apart."""

    def __init__(self, text):
        floors = [block.split() for block in text.split("floor")[1:]]
        signs = {}
        for level, floor in enumerate(floors):
            for line, row in enumerate(floor):
                for at, sign in enumerate(row):
                    if sign != "#":
                        signs[level, line, at] = sign
        number = {square: cell for cell, square in enumerate(signs)}
        self.size = len(number)
        self.cabins = [number[square] for square in signs if signs[square] == "C"]
        self.near = [set() for cell in number]
        for level, line, at in signs:
            beside = [(level, line, at + 1), (level, line + 1, at)]
            above = (level + 1, line, at)
            if signs[level, line, at] == "L" and signs.get(above) == "L":
                beside.append(above)
            for other in beside:
                if other in number:
                    self.near[number[level, line, at]].add(number[other])
                    self.near[number[other]].add(number[level, line, at])

    def shifts(self, standing):
        """All shifts that can be done, in order."""
        return [(start, end) for start in range(self.size) for end in sorted(self.near[start])
                if standing[start] != 0 and standing[end] == 0]

    def after(self, standing, shift):
        changed = list(standing)
        changed[shift[1]], changed[shift[0]] = standing[shift[0]], 0
        return tuple(changed)

    def end_of(self, standing, row):
        for shift in row:
            if shift not in self.shifts(standing):
                raise AssertionError("a shift can't be done")
            standing = self.after(standing, shift)
        return list(standing)

    def meets(self, standing, pallet, goals, free):
        return standing.index(pallet) in (goals or self.cabins) and all(standing[cell] == 0 for cell in free)

    def fewest(self, standing, pallets, goals, free):
        """The fewest shifts that bring one of the pallets, by a search over whole standings; None if none do."""
        seen = {tuple(standing)}
        layer = [tuple(standing)]
        depth = 0
        while layer:
            if any(self.meets(one, pallet, goals, free) for one in layer for pallet in pallets):
                return depth
            reached = {self.after(one, shift) for one in layer for shift in self.shifts(one)} - seen
            seen |= reached
            layer = list(reached)
            depth += 1
        return None

    def least_rows(self, standing, pallets, goals, free):
        """All rows of the fewest shifts, in order: every row that can be done is tried, whatever it leads to."""
        rows = [((), tuple(standing))]
        while True:
            least = [row for row, one in rows if any(self.meets(one, pallet, goals, free) for pallet in pallets)]
            if least:
                return sorted(least)
            rows = [(row + (shift,), self.after(one, shift)) for row, one in rows for shift in self.shifts(one)]

    def leads(self, place):
        """The places that shifts lead to from a place (the car's cell, and the holes as a set)."""
        car, holes = place
        for hole in holes:
            for start in self.near[hole] - holes:
                yield (hole if start == car else car, holes - {hole} | {start})

    def prices(self, hole_count, goals, free):
        """The prices of all places with so many holes that have one."""
        layer = []
        for holes in itertools.combinations(range(self.size), hole_count):
            if set(free) <= set(holes):
                layer += [(car, frozenset(holes)) for car in (goals or self.cabins) if car not in holes]
        prices = {place: 0 for place in layer}
        while layer:
            following = []
            for place in layer:
                for after in self.leads(place):
                    if after not in prices:
                        prices[after] = prices[place] + 1
                        following.append(after)
            layer = following
        return prices

    def place(self, standing, pallet):
        return (list(standing).index(pallet), frozenset(cell for cell in range(self.size) if standing[cell] == 0))

    def ways(self, prices, place):
        """How many least rows lead from a place that has a price, as a number without any modulus."""
        counts = {place: 1}
        for left in reversed(range(prices[place])):
            following = {}
            for here, count in counts.items():
                for after in self.leads(here):
                    if prices[after] == left:
                        following[after] = following.get(after, 0) + count
            counts = following
        return sum(counts.values())


def random_standing(dice, size, hole_count):
    """A standing with so many empty cells and pallets of any numbers, by a random source with a seed."""
    numbers = dice.sample(range(1, 100), size - hole_count) + [0] * hole_count
    dice.shuffle(numbers)
    return numbers


def random_wish(dice, yard, hole_count):
    goals = dice.sample(range(yard.size), dice.randint(0, min(2, yard.size)))
    free = dice.sample(range(yard.size), dice.randint(0, hole_count))
    return goals, free
