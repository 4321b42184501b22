"""firsts, ways, weigh and all; promises 2 and 4 on the prices that they tell."""

import random
import unittest

from tests.helper import (GREATEST, MODULUS, SMALL_PLANS, Yard, ask, ask_last, fetch, firsts, flat, load, pairs, park,
                          price_all, random_case, random_standing, random_wish, run, some_pallet, stand, told, ways,
                          weigh)

SQUARE = park("C. ..")
GRID = park("C.... ..... ..... .....")
TREE = park("..C..... .#.#.#.# .#.#.#.#")
TOWER = park("LLC L##", "LLL L#L", "LLL L#L", "LLL LL.")


class Firsts(unittest.TestCase):
    def check(self, text, numbers, asked, answer):
        self.assertEqual(ask(load(text), stand(numbers), firsts(*asked), told())[2:], [answer, [0] + numbers])

    def test_shifts_that_begin_a_least_row(self):
        self.check(SQUARE, [1, 2, 3, 0], (2,), [0, 1, 2, 3])
        self.check(SQUARE, [1, 2, 3, 0], (1, [3]), [0, 2, 1, 3, 2, 3])
        self.check(park(".C. ..."), [0, 4, 0, 1, 2, 3], (4, [2, 0]), [0, 2, 1, 0, 1, 2])
        self.check(park("C..."), [0, 1, 0, 2], (1, [0], [2]), [0, 1, 1, 0])
        self.check(park("C...."), [0, 1, 0, 2, 0], (1, [0], [3]), [0, 3, 1, 0, 3, 2, 3, 4])

    def test_none_where_no_shift_is_needed(self):
        self.check(SQUARE, [1, 2, 3, 0], (1,), [0, 0])

    def test_in_order(self):
        self.check(park(".C. ... ..."), [1, 2, 3, 4, 0, 5, 6, 7, 8], (8, [4]), [0, 2, 5, 4, 7, 4])
        self.check(park(".C. ... ..."), [1, 0, 3, 0, 5, 0, 6, 7, 8], (5, [1, 3, 5]), [0, 3, 4, 1, 4, 3, 4, 5])

    def test_against_all_rows(self):
        dice = random.Random(21)
        for text in SMALL_PLANS:
            yard = Yard(text)
            for turn in range(60):
                numbers, goals, free = random_case(dice, yard)
                pallet = some_pallet(dice, numbers)
                fewest = yard.fewest(numbers, [pallet], goals, free)
                answer = ask(load(text), stand(numbers), firsts(pallet, goals, free), ways(pallet, goals, free))[2:]
                if fewest is None:
                    self.assertEqual(answer, [[-5], [-5]])
                elif fewest <= 8:
                    rows = yard.least_rows(numbers, [pallet], goals, free)
                    begin = sorted({row[0] for row in rows if row})
                    self.assertEqual(answer, [[0, len(begin)] + flat(begin), [0, len(rows)]])


class Ways(unittest.TestCase):
    def check(self, text, numbers, asked, answer):
        self.assertEqual(ask(load(text), stand(numbers), ways(*asked), told())[2:], [answer, [0] + numbers])

    def test_how_many_least_rows(self):
        self.check(SQUARE, [1, 2, 3, 0], (2,), [0, 1])
        self.check(SQUARE, [1, 2, 3, 0], (1, [3]), [0, 2])
        self.check(park("C...."), [0, 1, 0, 2, 0], (1, [0], [3]), [0, 4])

    def test_the_row_without_shifts_is_one(self):
        self.check(SQUARE, [1, 2, 3, 0], (1,), [0, 1])

    def test_above_the_modulus(self):
        yard = Yard(GRID)
        numbers = [0, 0, 1, 2, 3, 0] + list(range(4, 18))
        for pallet, goals in ((10, [11]), (3, [15])):
            free = [19, 18, 14]
            count = yard.ways(yard.prices(3, goals, free), yard.place(numbers, pallet))
            self.assertGreater(count, MODULUS)
            self.check(GRID, numbers, (pallet, goals, free), [0, count % MODULUS])
        self.check(GRID, numbers, (10, [11], [19, 18, 14]), [0, 1250068942 - 1000000007])

    def test_larger_plans(self):
        dice = random.Random(22)
        for text in (GRID, TOWER, TREE):
            yard = Yard(text)
            for turn in range(3):
                numbers, goals, free = random_case(dice, yard)
                prices = yard.prices(numbers.count(0), goals, free)
                for pallet in dice.sample([pallet for pallet in numbers if pallet], 3):
                    place = yard.place(numbers, pallet)
                    answer = [0, yard.ways(prices, place) % MODULUS] if place in prices else [-5]
                    self.check(text, numbers, (pallet, goals, free), answer)


class Weigh(unittest.TestCase):
    def check(self, text, numbers, asked, answer):
        self.assertEqual(ask(load(text), stand(numbers), weigh(*asked), told())[2:], [answer, [0] + numbers])

    def test_a_least_row(self):
        self.check(SQUARE, [1, 2, 3, 0], (2, [], [], [2, 3, 0, 2, 1, 0]), [0, 1, 3, 2, 1, 0])
        self.check(SQUARE, [1, 2, 3, 0], (1, [3], [], [2, 3, 0, 2, 1, 0, 3, 1, 2, 3]), [0, 1, 5, 4, 3, 2, 1, 0])
        self.check(SQUARE, [1, 2, 3, 0], (1, [], [], []), [0, 1, 0])

    def test_rows_that_are_not(self):
        self.check(SQUARE, [1, 2, 3, 0], (2, [], [], []), [0, 0, 3])
        self.check(SQUARE, [1, 2, 3, 0], (2, [], [], [2, 3, 0, 2]), [0, 0, 3, 2, 1])
        self.check(SQUARE, [1, 2, 3, 0], (2, [], [], [2, 3, 0, 2, 1, 0, 3, 1]), [0, 0, 3, 2, 1, 0, 0])
        self.check(SQUARE, [1, 2, 3, 0], (2, [], [], [1, 3, 3, 1, 2, 3, 0, 2, 1, 0]), [0, 0, 3, 4, 3, 2, 1, 0])
        self.check(SQUARE, [1, 2, 3, 0], (2, [], [], [1, 3, 3, 1, 1, 3]), [0, 0, 3, 4, 3, 4])
        self.check(SQUARE, [1, 2, 3, 0], (1, [], [], [1, 3]), [0, 0, 0, 0])

    def test_as_many_shifts_as_the_price_but_not_to_the_end(self):
        self.check(SQUARE, [1, 2, 3, 0], (1, [3], [], [1, 3, 3, 1, 1, 3, 0, 1, 2, 0]), [0, 0, 5, 4, 5, 4, 3, 2])

    def test_places_without_a_price(self):
        self.check(park("C.."), [1, 2, 0], (2, [], [], []), [0, 0, -1])
        self.check(park("C.."), [1, 2, 0], (2, [], [], [1, 2, 0, 1]), [0, 0, -1, -1, -1])
        self.check(park("C.."), [1, 2, 0], (1, [0], [0], [1, 2]), [0, 0, -1, -1])

    def test_cells_wanted_empty(self):
        self.check(park("C.."), [1, 2, 0], (1, [], [1], [1, 2]), [0, 1, 1, 0])
        self.check(park("C.."), [1, 2, 0], (1, [], [1], [1, 2, 2, 1]), [0, 0, 1, 0, 1])

    def test_refused_rows(self):
        line = park("C....")
        numbers = [1, 2, 0, 3, 4]
        for row in ([1], [1, 2, 2], [5, 4], [1, 2, 2, GREATEST], [0, 0, 5, 5], [9] * 1000):
            self.check(line, numbers, (1, [], [], row), [-4])
        self.check(line, numbers, (1, [], [], [0, 1]), [-5, 0])
        self.check(line, numbers, (1, [], [], [1, 2, 0, 1, 4, 0, 0, 0]), [-5, 2])
        self.check(line, numbers, (4, [], [], [1, 2, 1, 2]), [-5, 1])

    def test_five_hundred_shifts(self):
        self.check(park("C...."), [1, 2, 0, 3, 4], (1, [1], [], [1, 2, 2, 1] * 250), [0, 0] + [2, 1] * 250 + [2])

    def test_random_rows(self):
        dice = random.Random(23)
        for text in SMALL_PLANS:
            yard = Yard(text)
            for turn in range(25):
                numbers, goals, free = random_case(dice, yard)
                pallet = some_pallet(dice, numbers)
                row = []
                along = [tuple(numbers)]
                for step in range(dice.randint(0, 6)):
                    row.append(dice.choice(yard.shifts(along[-1])))
                    along.append(yard.after(along[-1], row[-1]))
                prices = [yard.fewest(standing, [pallet], goals, free) for standing in along]
                least = int(prices[0] == len(row) and prices[-1] == 0)
                answer = [0, least] + [-1 if price is None else price for price in prices]
                self.check(text, numbers, (pallet, goals, free, flat(row)), answer)

    def test_what_fetch_tells_is_a_least_row(self):
        dice = random.Random(24)
        for text in (GRID, TOWER):
            yard = Yard(text)
            numbers, goals, free = random_case(dice, yard)
            pallet = some_pallet(dice, numbers)
            start = [load(text), stand(numbers)]
            fetched = ask_last(*start, fetch([pallet], goals, free))
            self.assertEqual(ask_last(*start, weigh(pallet, goals, free, fetched[2:])),
                             [0, 1] + list(range(fetched[1], -1, -1)))


class All(unittest.TestCase):
    def check(self, text, numbers, asked, answer):
        self.assertEqual(ask(load(text), stand(numbers), price_all(*asked), told())[2:], [answer, [0] + numbers])

    def test_in_the_order_of_the_cells(self):
        self.check(SQUARE, [9, 2, 5, 0], (), [0, 0, 9, 0, 2, 3, 5, 3])
        self.check(SQUARE, [0, 9, 2, 5], (), [0, 0, 9, 1, 2, 1, 5, 5])
        self.check(park("C..."), [7, 0, 3, 0], ([1],), [0, 0, 7, 1, 3, 1])

    def test_pallets_without_a_price(self):
        self.check(park("C.."), [8, 2, 0], (), [0, 1, 8, 0, 2, -1])
        self.check(park("C.."), [8, 2, 0], ([0], [0]), [0, 2, 8, -1, 2, -1])

    def test_no_pallet(self):
        self.check(park("C"), [0], (), [0, 0])
        self.check(park("C.."), [0, 0, 0], ([1], [0, 2]), [0, 0])

    def test_against_all_standings(self):
        dice = random.Random(25)
        for text in SMALL_PLANS:
            yard = Yard(text)
            for turn in range(25):
                numbers, goals, free = random_case(dice, yard)
                standing = [pallet for pallet in numbers if pallet]
                prices = [yard.fewest(numbers, [pallet], goals, free) for pallet in standing]
                listed = [-1 if price is None else price for price in prices]
                self.check(text, numbers, (goals, free), [0, prices.count(None)] + flat(zip(standing, listed)))

    def test_larger_plans(self):
        dice = random.Random(26)
        for text in (GRID, TOWER, TREE):
            yard = Yard(text)
            for turn in range(4):
                numbers, goals, free = random_case(dice, yard)
                prices = yard.prices(numbers.count(0), goals, free)
                standing = [pallet for pallet in numbers if pallet]
                listed = [prices.get(yard.place(numbers, pallet), -1) for pallet in standing]
                self.check(text, numbers, (goals, free), [0, listed.count(-1)] + flat(zip(standing, listed)))


class Refusals(unittest.TestCase):
    """What firsts, ways, weigh and all refuse; a row that is wrong comes last."""

    line = [load(park("C...")), stand([1, 2, 0, 0])]

    def check(self, asked, answer):
        self.assertEqual(ask(*self.line, asked, told())[2:], [answer, [0, 1, 2, 0, 0]])

    def for_one_pallet(self, pallet, goals, free, answer):
        self.check(firsts(pallet, goals, free), answer)
        self.check(ways(pallet, goals, free), answer)
        for row in ([], [1], [9, 9], [3, 2]):
            if answer != [-5]:
                self.check(weigh(pallet, goals, free, row), answer)

    def test_nothing_stands(self):
        calls = [firsts(9, [9], [9]), ways(0), weigh(9, [9], [9], [9]), price_all([9], [9])]
        self.assertEqual(ask(load(park("C...")), *calls)[1:], [[-8]] * 4)

    def test_pallets_that_do_not_stand(self):
        for pallet in (0, 3, 99, 100, GREATEST):
            self.for_one_pallet(pallet, [], [], [-3])
            self.for_one_pallet(pallet, [9], [0, 0], [-3])

    def test_wishes_that_can_not_be(self):
        for goals, free in (([4], []), ([0, GREATEST], []), ([], [4]), ([], [GREATEST]), ([1, 1], []), ([], [1, 1]),
                            ([], [0, 1, 2]), ([0] * 1000, [0] * 1000)):
            self.for_one_pallet(1, goals, free, [-4])
            self.for_one_pallet(2, goals, free, [-4])
            self.check(price_all(goals, free), [-4])

    def test_none_brings_it(self):
        for pallet, goals, free in ((2, [], []), (1, [3], []), (1, [0], [0])):
            self.for_one_pallet(pallet, goals, free, [-5])

    def test_a_wrong_row_before_one_that_can_not_be_done(self):
        self.check(weigh(1, [], [], [0, 0, 1]), [-4])
        self.check(weigh(1, [], [], [0, 0, 1, 4]), [-4])
        self.check(weigh(1, [], [], [0, 0, 1, 3]), [-5, 0])


def prices_told(text, numbers, goals, free, row=()):
    """The prices that all tells behind a row of shifts, by pallet."""
    answer = ask_last(load(text), stand(numbers), run(row), price_all(goals, free))
    return dict(pairs(answer[2:]))


class PromiseTwo(unittest.TestCase):
    def check(self, text, numbers, goals, free):
        before = prices_told(text, numbers, goals, free)
        behind = [prices_told(text, numbers, goals, free, shift) for shift in Yard(text).shifts(numbers)]
        for pallet, price in before.items():
            for prices in behind:
                if price < 0:
                    self.assertEqual(prices[pallet], -1)
                else:
                    self.assertGreaterEqual(prices[pallet], 0)
                    self.assertLessEqual(abs(prices[pallet] - price), 1)
            if price > 0:
                self.assertIn(price - 1, [prices[pallet] for prices in behind])

    def test_from_a_place_to_the_next(self):
        dice = random.Random(31)
        for text in SMALL_PLANS + (TREE, GRID, TOWER):
            for turn in range(4):
                self.check(text, *random_case(dice, Yard(text)))


class PromiseFour(unittest.TestCase):
    def test_renumbered(self):
        dice = random.Random(41)
        for text in SMALL_PLANS + (TREE, GRID, TOWER):
            for turn in range(4):
                numbers, goals, free = random_case(dice, Yard(text))
                other = dict(zip(range(1, 100), dice.sample(range(1, 100), 99)))
                renumbered = [other.get(pallet, 0) for pallet in numbers]
                before = prices_told(text, numbers, goals, free)
                after = prices_told(text, renumbered, goals, free)
                self.assertEqual(after, {other[pallet]: price for pallet, price in before.items()})

    def test_the_others_are_alike(self):
        dice = random.Random(42)
        for text in SMALL_PLANS + (TREE, GRID, TOWER):
            numbers, goals, free = random_case(dice, Yard(text))
            pallet = some_pallet(dice, numbers)
            others = [one for one in numbers if one not in (0, pallet)]
            dice.shuffle(others)
            mixed = [one if one in (0, pallet) else others.pop() for one in numbers]
            asked = [fetch([pallet], goals, free), firsts(pallet, goals, free), ways(pallet, goals, free)]
            self.assertEqual(ask(load(text), stand(numbers), *asked), ask(load(text), stand(mixed), *asked))

    def test_a_hole_more(self):
        dice = random.Random(43)
        for text in SMALL_PLANS[1:] + (TREE, GRID, TOWER):
            yard = Yard(text)
            for turn in range(4):
                hole_count = dice.randint(1, min(2, yard.size - 2))
                numbers = random_standing(dice, yard.size, hole_count)
                goals, free = random_wish(dice, yard, hole_count)
                gone = some_pallet(dice, numbers)
                before = prices_told(text, numbers, goals, free)
                after = prices_told(text, [0 if one == gone else one for one in numbers], goals, free)
                for pallet, price in after.items():
                    if before[pallet] >= 0:
                        self.assertTrue(0 <= price <= before[pallet], (text, numbers, gone, pallet))

    def test_brought_back(self):
        dice = random.Random(44)
        brought = 0
        for text in SMALL_PLANS + (TREE, GRID, TOWER):
            for turn in range(6):
                numbers, goals, free = random_case(dice, Yard(text))
                pallet = some_pallet(dice, numbers)
                start = [load(text), stand(numbers)]
                fetched = ask_last(*start, fetch([pallet], goals, free))
                if fetched[0] == 0:
                    brought += 1
                    holes = [cell for cell, one in enumerate(numbers) if one == 0]
                    back = fetch([pallet], [numbers.index(pallet)], holes)
                    answer = ask_last(*start, run(fetched[2:]), back)
                    self.assertEqual(answer[:2], fetched[:2])
                    ends = ask_last(*start, run(fetched[2:]), run(fetched[:1:-1]), told())
                    self.assertEqual(ends, [0] + numbers)
        self.assertGreater(brought, 20)


if __name__ == "__main__":
    unittest.main()
