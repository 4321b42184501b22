"""nearest and map."""

import random
import unittest

from tests.helper import (GREATEST, SMALL_PLANS, Yard, ask, ask_last, fetch, load, map_of, nearest, pairs, park,
                          price_all, random_case, some_pallet, stand, told)

SQUARE = park("C. ..")
GRID = park("C.... ..... ..... .....")
TREE = park("..C..... .#.#.#.# .#.#.#.#")
TOWER = park("LLC L##", "LLL L#L", "LLL L#L", "LLL LL.")


class Nearest(unittest.TestCase):
    def check(self, text, numbers, asked, answer):
        self.assertEqual(ask(load(text), stand(numbers), nearest(*asked), told())[2:], [answer, [0] + numbers])

    def test_the_least_price(self):
        self.check(SQUARE, [9, 2, 5, 0], (), [0, 9, 0])
        self.check(SQUARE, [0, 9, 2, 5], ([3],), [0, 5, 0])
        self.check(park("C..."), [0, 0, 8, 3], (), [0, 8, 2])
        self.check(park("C..."), [8, 0, 0, 3], ([2],), [0, 3, 1])

    def test_of_several_the_least_pallet(self):
        self.check(SQUARE, [0, 9, 2, 5], (), [0, 2, 1])
        self.check(SQUARE, [0, 2, 9, 5], (), [0, 2, 1])
        self.check(park("C.C"), [99, 0, 98], (), [0, 98, 0])
        self.check(park("C.C"), [98, 0, 99], (), [0, 98, 0])
        self.check(park("C...."), [1, 30, 0, 20, 10], ([2],), [0, 20, 1])

    def test_a_nearer_pallet_goes_before_a_lesser_one(self):
        self.check(park("..C"), [1, 2, 0], (), [0, 2, 1])

    def test_pallets_without_a_price_do_not_matter(self):
        self.check(park("C.."), [8, 2, 0], (), [0, 8, 0])
        self.check(park("..C"), [2, 8, 0], (), [0, 8, 1])

    def test_cells_wanted_empty(self):
        self.check(park("C.."), [2, 1, 0], ([0], [1]), [0, 2, 1])
        self.check(park("C..."), [0, 1, 0, 2], ([0, 3], [1, 2]), [0, 1, 1])
        self.check(park("C..."), [1, 0, 2, 0], ([0, 3], [1, 2]), [0, 1, 1])
        self.check(park("C..."), [1, 0, 2, 0], ([3], [1, 2]), [0, 2, 1])

    def test_none_has_a_price(self):
        self.check(park("C.."), [8, 2, 0], ([0], [0]), [-5])
        self.check(park("C.."), [0, 0, 0], (), [-5])
        self.check(park("C"), [0], (), [-5])

    def test_wishes_that_can_not_be(self):
        for asked in (([4],), ([0, GREATEST],), ([], [4]), ([], [GREATEST]), ([1, 1],), ([], [1, 1]), ([], [0, 1, 2]),
                      ([0] * 1000, [0] * 1000), ([0], [0, 1, 2])):
            self.check(park("C..."), [1, 2, 0, 0], asked, [-4])

    def test_nothing_stands(self):
        self.assertEqual(ask(load(SQUARE), nearest(), nearest([9], [9, 9]))[1:], [[-8], [-8]])

    def test_against_all_standings(self):
        dice = random.Random(61)
        for text in SMALL_PLANS:
            yard = Yard(text)
            for turn in range(25):
                numbers, goals, free = random_case(dice, yard)
                prices = [(yard.fewest(numbers, [pallet], goals, free), pallet) for pallet in numbers if pallet]
                known = [(price, pallet) for price, pallet in prices if price is not None]
                answer = [0, min(known)[1], min(known)[0]] if known else [-5]
                self.check(text, numbers, (goals, free), answer)

    def test_as_all_tells(self):
        dice = random.Random(62)
        for text in (GRID, TOWER, TREE):
            for turn in range(4):
                numbers, goals, free = random_case(dice, Yard(text))
                prices = ask_last(load(text), stand(numbers), price_all(goals, free))[2:]
                known = [(price, pallet) for pallet, price in pairs(prices) if price >= 0]
                answer = [0, min(known)[1], min(known)[0]] if known else [-5]
                self.check(text, numbers, (goals, free), answer)


class Map(unittest.TestCase):
    def check(self, text, numbers, pallet, answer):
        self.assertEqual(ask(load(text), stand(numbers), map_of(pallet), told())[2:], [answer, [0] + numbers])

    def test_the_fewest_shifts_to_each_cell(self):
        self.check(SQUARE, [1, 2, 3, 0], 2, [0, 4, 3, 0, 4, 1])
        self.check(park("C."), [7, 0], 7, [0, 2, 0, 1])
        self.check(park("C.."), [0, 7, 0], 7, [0, 3, 1, 0, 1])
        self.check(park("C..."), [0, 7, 0, 8], 7, [0, 3, 1, 0, 1, -1])
        self.check(park("C..."), [0, 7, 0, 0], 7, [0, 4, 1, 0, 1, 2])

    def test_cells_that_it_can_not_be_brought_to(self):
        self.check(park("C.."), [1, 2, 0], 1, [0, 2, 0, 2, -1])
        self.check(park("C.."), [1, 2, 0], 2, [0, 2, -1, 0, 1])
        self.check(park("CL", ".L"), [0, 1, 2, 3], 3, [0, 2, -1, 2, -1, 0])
        self.check(park(".C. #.#"), [1, 2, 3, 0], 2, [0, 2, -1, 0, -1, 1])
        self.check(park(".C. #.#"), [1, 2, 3, 0], 1, [0, 2, 0, 2, -1, -1])

    def test_what_is_meant_by_no_cells_wanted_empty(self):
        """The cell it stands on is 0 whatever the holes, and the others may end where they like."""
        self.check(park("C...."), [1, 0, 2, 0, 0], 2, [0, 4, -1, 1, 0, 1, 2])

    def test_pallets_that_do_not_stand(self):
        for pallet in (0, 4, 99, 100, GREATEST):
            self.check(SQUARE, [1, 2, 3, 0], pallet, [-3])
        self.check(park("C"), [0], 1, [-3])

    def test_nothing_stands(self):
        self.assertEqual(ask(load(SQUARE), map_of(1), map_of(0), map_of(GREATEST))[1:], [[-8]] * 3)

    def test_against_all_standings(self):
        dice = random.Random(63)
        blocked = 0
        for text in SMALL_PLANS:
            yard = Yard(text)
            for turn in range(8):
                numbers, goals, free = random_case(dice, yard)
                pallet = some_pallet(dice, numbers)
                fewest = [yard.fewest(numbers, [pallet], [cell], []) for cell in range(yard.size)]
                blocked += None in fewest
                listed = [-1 if price is None else price for price in fewest]
                self.check(text, numbers, pallet, [0, yard.size - fewest.count(None)] + listed)
        self.assertGreater(blocked, 20)

    def test_larger_plans_against_searches_from_the_other_end(self):
        dice = random.Random(64)
        for text in (GRID, TOWER, TREE):
            yard = Yard(text)
            numbers, goals, free = random_case(dice, yard)
            pallet = some_pallet(dice, numbers)
            listed = []
            for cell in range(yard.size):
                prices = yard.prices(numbers.count(0), [cell], [])
                listed.append(prices.get(yard.place(numbers, pallet), -1))
            self.check(text, numbers, pallet, [0, yard.size - listed.count(-1)] + listed)

    def test_as_fetch_tells(self):
        dice = random.Random(65)
        for text in SMALL_PLANS + (TREE,):
            yard = Yard(text)
            numbers, goals, free = random_case(dice, yard)
            pallet = some_pallet(dice, numbers)
            start = [load(text), stand(numbers)]
            fetched = ask(*start, *[fetch([pallet], [cell]) for cell in range(yard.size)])[2:]
            listed = [answer[1] if answer[0] == 0 else -1 for answer in fetched]
            self.assertEqual(ask_last(*start, map_of(pallet))[2:], listed)


if __name__ == "__main__":
    unittest.main()
