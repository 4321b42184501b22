"""What the tests share: calls written as lists of numbers, and slow answers found another way."""

import itertools

from fewestshifts.hall import answers

GREATEST = 4294967295
MODULUS = 1000000007


def codes(text):
    return [ord(sign) for sign in text]


def park(*floors):
    """A plan's text: each floor is its rows, with a blank between two."""
    lines = ["park a"]
    for floor in floors:
        lines += ["floor"] + floor.split()
    return "".join(line + "\n" for line in lines)


def call(number, *parts):
    numbers = [number]
    for part in parts:
        numbers += [len(part)] + list(part) if isinstance(part, (list, tuple)) else [part]
    return numbers


def load(text):
    return call(0, codes(text) if isinstance(text, str) else text)


def stand(numbers):
    return call(1, numbers)


def told():
    return call(2)


def near(cell):
    return call(3, cell)


def run(numbers):
    return call(4, numbers)


def fetch(pallets, goals=(), free=()):
    return call(5, pallets, goals, free)


def go(pallets, goals=(), free=()):
    return call(6, pallets, goals, free)


def firsts(pallet, goals=(), free=()):
    return call(7, pallet, goals, free)


def ways(pallet, goals=(), free=()):
    return call(8, pallet, goals, free)


def weigh(pallet, goals, free, row):
    return call(9, pallet, goals, free, row)


def price_all(goals=(), free=()):
    return call(10, goals, free)


def nearest(goals=(), free=()):
    return call(11, goals, free)


def map_of(pallet):
    return call(12, pallet)


def price(car, holes, goals=(), free=()):
    return call(13, car, holes, goals, free)


def spread(hole_count, goals=(), free=()):
    return call(14, hole_count, goals, free)


def hardest(hole_count, goals=(), free=()):
    return call(15, hole_count, goals, free)


def stuck(hole_count, goals=(), free=()):
    return call(16, hole_count, goals, free)


def cell_of(cell, hole_count, goals=(), free=()):
    return call(17, cell, hole_count, goals, free)


def known(pallet, goals=(), free=()):
    return call(18, pallet, goals, free)


def check(pallet, limit, goals, free, row):
    return call(19, pallet, limit, goals, free, row)


def shut(pallet, goals, free, row):
    return call(20, pallet, goals, free, row)


def ask(*calls):
    """The answers to calls on one object, each a list of its own."""
    numbers = answers(list(itertools.chain(*calls)))
    split = []
    while numbers:
        split.append(numbers[1:1 + numbers[0]])
        if len(split[-1]) != numbers[0]:
            raise AssertionError("an answer is shorter than its count")
        numbers = numbers[1 + numbers[0]:]
    if len(split) != len(calls):
        raise AssertionError("not as many answers as calls")
    return split


def ask_last(*calls):
    return ask(*calls)[-1]


def ask_each(start, calls):
    """The answer to each call behind the calls of the start, as many in one list as one may have."""
    listed = []
    for at in range(0, len(calls), 24):
        listed += ask(*start, *calls[at:at + 24])[len(start):]
    return listed


def pairs(numbers):
    return list(zip(numbers[::2], numbers[1::2]))


def flat(shifts):
    return [cell for shift in shifts for cell in shift]


class Yard:
    """A plan read and searched without the package: standings are whole, with every pallet told apart."""

    def __init__(self, text):
        floors = [block.split() for block in text.split("floor")[1:]]
        signs = {}
        for level, floor in enumerate(floors):
            for line, row in enumerate(floor):
                for at, sign in enumerate(row):
                    if sign != "#":
                        signs[level, line, at] = sign
        number = {square: cell for cell, square in enumerate(signs)}
        self.size = len(number)
        self.cabins = [number[square] for square in signs if signs[square] == "C"]
        self.near = [set() for cell in number]
        for level, line, at in signs:
            beside = [(level, line, at + 1), (level, line + 1, at)]
            above = (level + 1, line, at)
            if signs[level, line, at] == "L" and signs.get(above) == "L":
                beside.append(above)
            for other in beside:
                if other in number:
                    self.near[number[level, line, at]].add(number[other])
                    self.near[number[other]].add(number[level, line, at])

    def shifts(self, standing):
        """All shifts that can be done, in order."""
        return [(start, end) for start in range(self.size) for end in sorted(self.near[start])
                if standing[start] != 0 and standing[end] == 0]

    def after(self, standing, shift):
        changed = list(standing)
        changed[shift[1]], changed[shift[0]] = standing[shift[0]], 0
        return tuple(changed)

    def end_of(self, standing, row):
        for shift in row:
            if shift not in self.shifts(standing):
                raise AssertionError("a shift can't be done")
            standing = self.after(standing, shift)
        return list(standing)

    def meets(self, standing, pallet, goals, free):
        return standing.index(pallet) in (goals or self.cabins) and all(standing[cell] == 0 for cell in free)

    def fewest(self, standing, pallets, goals, free):
        """The fewest shifts that bring one of the pallets, by a search over whole standings; None if none do."""
        seen = {tuple(standing)}
        layer = [tuple(standing)]
        depth = 0
        while layer:
            if any(self.meets(one, pallet, goals, free) for one in layer for pallet in pallets):
                return depth
            reached = {self.after(one, shift) for one in layer for shift in self.shifts(one)} - seen
            seen |= reached
            layer = list(reached)
            depth += 1
        return None

    def least_rows(self, standing, pallets, goals, free):
        """All rows of the fewest shifts, in order: every row that can be done is tried, whatever it leads to."""
        rows = [((), tuple(standing))]
        while True:
            least = [row for row, one in rows if any(self.meets(one, pallet, goals, free) for pallet in pallets)]
            if least:
                return sorted(least)
            rows = [(row + (shift,), self.after(one, shift)) for row, one in rows for shift in self.shifts(one)]

    def leads(self, place):
        """The places that shifts lead to from a place (the car's cell, and the holes as a set)."""
        car, holes = place
        for hole in holes:
            for start in self.near[hole] - holes:
                yield (hole if start == car else car, holes - {hole} | {start})

    def prices(self, hole_count, goals, free):
        """The prices of all places with so many holes that have one."""
        layer = []
        for holes in itertools.combinations(range(self.size), hole_count):
            if set(free) <= set(holes):
                layer += [(car, frozenset(holes)) for car in (goals or self.cabins) if car not in holes]
        prices = {place: 0 for place in layer}
        while layer:
            following = []
            for place in layer:
                for after in self.leads(place):
                    if after not in prices:
                        prices[after] = prices[place] + 1
                        following.append(after)
            layer = following
        return prices

    def places(self, hole_count):
        """All places with so many holes in order, each as the numbers that tell it."""
        rows = itertools.combinations(range(self.size), hole_count)
        return sorted([car, *holes] for holes in rows for car in range(self.size) if car not in holes)

    def listed_prices(self, hole_count, goals, free):
        """The prices of all places with so many holes, in the order of the places; -1 for none."""
        prices = self.prices(hole_count, goals, free)
        return [prices.get((place[0], frozenset(place[1:])), -1) for place in self.places(hole_count)]

    def leads_in_order(self, place):
        """The shifts from a place in order, each with the numbers that tell the place behind it."""
        standing = [0 if cell in place[1:] else 1 if cell == place[0] else 2 for cell in range(self.size)]
        for shift in self.shifts(standing):
            after = self.after(standing, shift)
            yield shift, [after.index(1)] + [cell for cell in range(self.size) if after[cell] == 0]

    def told_place(self, standing, pallet):
        return [list(standing).index(pallet)] + [cell for cell in range(self.size) if standing[cell] == 0]

    def judge_check(self, standing, pallet, limit, goals, free, row):
        """What check answers, behind all refusals but -6, by the words alone."""
        places = self.places(list(standing).count(0))
        length = list(standing).count(0) + 2
        entries = [row[at:at + length] for at in range(0, len(row), length)]
        for number, entry in enumerate(entries):
            if len(entry) < length or entry[:-1] not in places or entry[-1] >= limit:
                return [-6, number]
            if entry[:-1] in [before[:-1] for before in entries[:number]]:
                return [-6, number]
        return self.judge(standing, pallet, goals, free, entries, limit)

    def judge_shut(self, standing, pallet, goals, free, row):
        """What shut answers, behind all refusals but -6."""
        places = self.places(list(standing).count(0))
        length = list(standing).count(0) + 1
        entries = [row[at:at + length] for at in range(0, len(row), length)]
        for number, entry in enumerate(entries):
            if len(entry) < length or entry not in places or entry in entries[:number]:
                return [-6, number]
        # Without an entry is as good as dearer than anything.
        return self.judge(standing, pallet, goals, free, [entry + [0] for entry in entries], 10 ** 9)

    def judge(self, standing, pallet, goals, free, entries, limit):
        told = {tuple(entry[:-1]): entry[-1] for entry in entries}
        if tuple(self.told_place(standing, pallet)) in told:
            return [0, 0, 1]
        for place in self.places(list(standing).count(0)):
            meets = place[0] in (goals or self.cabins) and set(free) <= set(place[1:])
            if meets and told.get(tuple(place), limit) != 0:
                return [0, 0, 2, *place]
        for number, entry in enumerate(entries):
            for shift, after in self.leads_in_order(entry[:-1]):
                if told.get(tuple(after), limit) > entry[-1] + 1:
                    return [0, 0, 3, number, *shift]
        return [0, 1]

    def place(self, standing, pallet):
        return (list(standing).index(pallet), frozenset(cell for cell in range(self.size) if standing[cell] == 0))

    def ways(self, prices, place):
        """How many least rows lead from a place that has a price, as a number without any modulus."""
        counts = {place: 1}
        for left in reversed(range(prices[place])):
            following = {}
            for here, count in counts.items():
                for after in self.leads(here):
                    if prices[after] == left:
                        following[after] = following.get(after, 0) + count
            counts = following
        return sum(counts.values())


SMALL_PLANS = (park("C."), park("C.."), park("C. .."), park("C#C ..."), park("CL", ".L"), park(".C. #.#"),
               park("LC", "L.", "L."), park("C.. ..."), park("CL .L", "#L ##"))


def random_case(dice, yard):
    """A standing and a wish that can be with it."""
    hole_count = dice.randint(1, min(3, yard.size - 1))
    return random_standing(dice, yard.size, hole_count), *random_wish(dice, yard, hole_count)


def some_pallet(dice, numbers):
    return dice.choice([pallet for pallet in numbers if pallet])


def random_standing(dice, size, hole_count):
    """A standing with so many empty cells and pallets of any numbers, by a random source with a seed."""
    numbers = dice.sample(range(1, 100), size - hole_count) + [0] * hole_count
    dice.shuffle(numbers)
    return numbers


def random_wish(dice, yard, hole_count):
    goals = dice.sample(range(yard.size), dice.randint(0, min(2, yard.size)))
    free = dice.sample(range(yard.size), dice.randint(0, hole_count))
    return goals, free
