"""fetch and go: promise 1, their wishes and their refusals."""

import random
import unittest

from tests.helper import (GREATEST, Yard, ask, ask_last, fetch, flat, go, load, pairs, park, random_standing,
                          random_wish, run, stand, told)

SMALL_PLANS = (park("C."), park("C.."), park("C. .."), park("C#C ..."), park("CL", ".L"), park(".C. #.#"),
               park("LC", "L.", "L."), park("C.. ..."), park("L.C", "L.."), park("CL .L", "#L ##"), park("C... #.##"))
GRID = park("C.... ..... ..... .....")
TOWER = park("LLC L##", "LLL L#L", "LLL L#L", "LLL LL.")
RING = park("C..... .####. .####. .####. .####. ......")
SQUARE = park("C. ..")


class Fewest(unittest.TestCase):
    def check(self, text, numbers, asked, answer):
        self.assertEqual(ask_last(load(text), stand(numbers), fetch(*asked)), answer)

    def test_it_stands_there_already(self):
        self.check(park("C.."), [1, 2, 0], ([1],), [0, 0])
        self.check(park("C.."), [1, 2, 0], ([2], [2, 1]), [0, 0])
        self.check(park("C.."), [1, 2, 0], ([1], [], [2]), [0, 0])

    def test_one_shift(self):
        self.check(park("C.."), [0, 2, 1], ([2],), [0, 1, 1, 0])
        self.check(park("C.."), [1, 2, 0], ([2], [2]), [0, 1, 1, 2])

    def test_others_out_of_its_way(self):
        self.check(SQUARE, [1, 2, 3, 0], ([2],), [0, 3, 2, 3, 0, 2, 1, 0])
        self.check(SQUARE, [1, 2, 3, 0], ([3],), [0, 3, 1, 3, 0, 1, 2, 0])

    def test_the_first_of_several_rows_for_one_pallet(self):
        self.check(SQUARE, [1, 2, 3, 0], ([1], [3]), [0, 5, 1, 3, 0, 1, 2, 0, 3, 2, 1, 3])
        self.check(park(".C. ..."), [0, 4, 0, 1, 2, 3], ([4], [2, 0]), [0, 1, 1, 0])

    def test_the_first_of_the_rows_for_several_pallets(self):
        for pallets in ([2, 3], [3, 2]):
            self.check(SQUARE, [1, 2, 3, 0], (pallets,), [0, 3, 1, 3, 0, 1, 2, 0])
        for pallets in ([5, 7], [7, 5], [3, 7, 5]):
            self.check(park("C.. ..."), [0, 7, 1, 5, 2, 3], (pallets,), [0, 1, 1, 0])

    def test_a_nearer_pallet_goes_before_a_smaller_first_shift(self):
        self.check(SQUARE, [1, 2, 3, 0], ([1, 2], [3]), [0, 1, 1, 3])
        self.check(park("..C"), [1, 2, 0], ([1, 2],), [0, 1, 1, 2])

    def test_pallets_that_can_not_be_brought_do_not_matter(self):
        self.check(park("..C"), [1, 2, 0], ([1],), [-5])
        self.check(park("..C"), [1, 0, 0], ([1],), [0, 2, 0, 1, 1, 2])

    def test_between_floors(self):
        self.check(park("CL", ".L"), [0, 1, 2, 3], ([3],), [-5])
        self.check(park("CL", ".L"), [0, 0, 2, 3], ([3],), [0, 2, 3, 1, 1, 0])
        self.check(park("CL", ".L", "#L"), [0, 0, 3, 4, 5], ([5],), [-5])
        self.check(park("CL", ".L", "#L"), [0, 0, 0, 4, 5], ([5],), [0, 4, 3, 2, 4, 3, 3, 1, 1, 0])


class Wishes(unittest.TestCase):
    def check(self, text, numbers, asked, answer):
        self.assertEqual(ask_last(load(text), stand(numbers), fetch(*asked)), answer)

    def test_without_goals_all_cabins_are_meant(self):
        self.check(park("C.C"), [1, 2, 0], ([2],), [0, 1, 1, 2])
        self.check(park("C.C"), [0, 2, 1], ([2],), [0, 1, 1, 0])
        self.check(park("C.C"), [0, 2, 0], ([2],), [0, 1, 1, 0])

    def test_goals_need_no_cabin(self):
        self.check(park("C.."), [1, 2, 0], ([2], [2]), [0, 1, 1, 2])

    def test_with_goals_cabins_do_not_matter(self):
        self.check(park("C.."), [1, 2, 0], ([1], [1]), [0, 2, 1, 2, 0, 1])

    def test_cells_wanted_empty(self):
        self.check(SQUARE, [1, 2, 3, 0], ([2], [], [1]), [0, 3, 2, 3, 0, 2, 1, 0])
        self.check(SQUARE, [1, 2, 3, 0], ([2], [], [3]), [0, 4, 2, 3, 0, 2, 1, 0, 3, 1])
        self.check(park("C.."), [1, 2, 0], ([1], [], [1]), [0, 1, 1, 2])
        self.check(park("C..."), [1, 2, 0, 0], ([1], [], [1, 2]), [0, 2, 1, 2, 2, 3])
        self.check(park("C..."), [1, 2, 0, 0], ([1], [], [2, 1]), [0, 2, 1, 2, 2, 3])

    def test_a_cell_in_both(self):
        self.check(park("C.."), [1, 2, 0], ([1], [0], [0]), [-5])
        self.check(park("C.."), [1, 2, 0], ([1], [], [0]), [-5])
        self.check(park("C.."), [1, 2, 0], ([1], [0, 1], [0]), [0, 2, 1, 2, 0, 1])
        self.check(park("C.."), [1, 2, 0], ([2], [1, 0, 2], [1]), [0, 1, 1, 2])

    def test_all_empty_cells_wanted(self):
        self.check(park("C..."), [1, 0, 0, 0], ([1], [1], [0, 2, 3]), [0, 1, 0, 1])
        self.check(park("C..."), [1, 0, 0, 0], ([1], [1], [0, 1, 3]), [-5])


class Refusals(unittest.TestCase):
    line = [load(park("C...")), stand([1, 2, 0, 0])]

    def check(self, asked, answer):
        for asking in (fetch, go):
            self.assertEqual(ask(*self.line, asking(*asked), told())[2:], [answer, [0, 1, 2, 0, 0]])

    def test_nothing_stands(self):
        for asking in (fetch, go):
            self.assertEqual(ask(load(park("C..")), asking([1]), asking([], [9], [9, 9]))[1:], [[-8], [-8]])

    def test_pallets(self):
        for pallets in ([], [3], [0], [0, 1], [1, 0], [1, 3], [100], [GREATEST], [1, 1], [2, 1, 2], [1] * 1000):
            self.check((pallets,), [-3])

    def test_wishes_that_can_not_be(self):
        for goals, free in (([4], []), ([0, 4], []), ([GREATEST], []), ([], [4]), ([], [0, 4]), ([], [GREATEST]),
                            ([1, 1], []), ([0, 1, 0], []), ([], [1, 1]), ([], [0, 1, 2]), ([], [0, 1, 2, 3]),
                            ([0] * 1000, []), ([], [0] * 1000), (list(range(1000)), [])):
            self.check(([1], goals, free), [-4])

    def test_as_many_wanted_empty_as_there_are_holes(self):
        self.check(([1], [3], [0, 1]), [-5])
        self.assertEqual(ask_last(*self.line, fetch([2], [3], [1, 2])), [0, 2, 1, 2, 2, 3])
        self.check(([2], [3], [0, 1, 2]), [-4])
        self.assertEqual(ask_last(load(park("C...")), stand([1, 0, 0, 0]), fetch([1], [3], [1, 2, 0])),
                         [0, 3, 0, 1, 1, 2, 2, 3])

    def test_none_can_be_brought(self):
        for asked in (([2],), ([2], [0]), ([1], [3]), ([2, 1], [0], [0])):
            self.check(asked, [-5])

    def test_the_first_refusal_that_is_due(self):
        self.check(([], [4], []), [-3])
        self.check(([9], [], [0, 0]), [-3])
        self.check(([2, 2], [0], [0, 1, 2]), [-3])
        self.check(([2], [0, 0], []), [-4])
        self.check(([2], [0], [9]), [-4])

    def test_no_pallet_stands(self):
        calls = [load(park("C..")), stand([0, 0, 0]), fetch([1]), fetch([0]), go([1]), go([])]
        self.assertEqual(ask(*calls)[2:], [[-3]] * 4)


class Go(unittest.TestCase):
    def check(self, text, numbers, asked, answer, behind):
        self.assertEqual(ask(load(text), stand(numbers), go(*asked), told())[2:], [answer, [0] + behind])

    def test_the_row_is_done(self):
        self.check(SQUARE, [1, 2, 3, 0], ([2],), [0, 3, 2, 0], [2, 0, 1, 3])
        self.check(SQUARE, [1, 2, 3, 0], ([2, 3],), [0, 3, 3, 0], [3, 1, 0, 2])
        self.check(park("C.. ..."), [0, 7, 1, 5, 2, 3], ([5, 7],), [0, 1, 7, 0], [7, 0, 1, 5, 2, 3])

    def test_no_shift_is_needed(self):
        self.check(park("C.."), [8, 2, 0], ([8],), [0, 0, 8, 0], [8, 2, 0])

    def test_of_several_that_meet_the_wish_the_least(self):
        self.check(park("CC."), [9, 4, 0], ([9, 4],), [0, 0, 4, 1], [9, 4, 0])
        self.check(park("CC."), [4, 9, 0], ([9, 4],), [0, 0, 4, 0], [4, 9, 0])
        self.check(park("CCC."), [4, 8, 9, 0], ([9, 8, 4], [], [2]), [0, 1, 4, 0], [4, 8, 0, 9])
        self.check(park("CCC."), [4, 8, 9, 0], ([9, 8], [], [2]), [0, 1, 8, 1], [4, 8, 0, 9])

    def test_a_lesser_one_that_does_not_meet_it(self):
        self.check(park("C.."), [9, 4, 0], ([4, 9],), [0, 0, 9, 0], [9, 4, 0])
        self.check(park("CC.."), [4, 9, 0, 7], ([4, 9], [1, 2], [3]), [0, 1, 9, 1], [4, 9, 7, 0])
        self.check(park("CC.."), [4, 9, 0, 0], ([4, 9], [2], [0]), [0, 2, 9, 2], [0, 4, 9, 0])

    def test_what_stands_behind_it_is_what_the_next_call_finds(self):
        calls = [load(park("C..")), stand([0, 1, 2]), go([1]), go([2], [1]), go([1], [0]), told()]
        self.assertEqual(ask(*calls)[2:], [[0, 1, 1, 0], [0, 1, 2, 1], [0, 0, 1, 0], [0, 1, 2, 0]])


class AgainstAllRows(unittest.TestCase):
    """Small plans, with every row tried and every pallet told apart."""

    def check(self, text, yard, numbers, pallets, goals, free):
        start = [load(text), stand(numbers)]
        self.assertEqual(ask(*start), [[0, yard.size, len(yard.cabins)], [0]])
        fewest = yard.fewest(numbers, pallets, goals, free)
        fetched, gone, behind = ask(*start, fetch(pallets, goals, free), go(pallets, goals, free), told())[2:]
        about = (text, numbers, pallets, goals, free)
        if fewest is None:
            self.assertEqual([fetched, gone, behind], [[-5], [-5], [0] + numbers], about)
            return
        self.assertEqual(fetched[:2], [0, fewest], about)
        row = pairs(fetched[2:])
        self.assertEqual(len(row), fewest, about)
        end = yard.end_of(numbers, row)
        met = [pallet for pallet in pallets if yard.meets(end, pallet, goals, free)]
        self.assertEqual(gone, [0, fewest, min(met), end.index(min(met))], about)
        self.assertEqual(behind, [0] + end, about)
        if fewest <= 8:
            self.assertEqual(tuple(row), yard.least_rows(numbers, pallets, goals, free)[0], about)

    def test_small_plans(self):
        dice = random.Random(11)
        for text in SMALL_PLANS:
            yard = Yard(text)
            for turn in range(100):
                hole_count = dice.randint(1, min(3, yard.size - 1))
                numbers = random_standing(dice, yard.size, hole_count)
                standing = [pallet for pallet in numbers if pallet]
                pallets = dice.sample(standing, dice.randint(1, len(standing)))
                self.check(text, yard, numbers, pallets, *random_wish(dice, yard, hole_count))

    def test_one_goal_and_every_pallet(self):
        for text in SMALL_PLANS:
            yard = Yard(text)
            numbers = list(range(yard.size - 1, -1, -1))
            for goal in range(yard.size):
                self.check(text, yard, numbers, numbers[:-1], [goal], [])


def slow_first_row(yard, prices, numbers, pallets):
    """The first least row, found for each pallet alone; of these the first goes. None if there is none."""
    priced = [pallet for pallet in pallets if yard.place(numbers, pallet) in prices]
    rows = []
    for pallet in priced:
        here = tuple(numbers)
        row = []
        for left in reversed(range(prices[yard.place(here, pallet)])):
            shift = next(shift for shift in yard.shifts(here)
                         if prices[yard.place(yard.after(here, shift), pallet)] == left)
            row.append(shift)
            here = yard.after(here, shift)
        rows.append(row)
    return min(rows, key=lambda row: (len(row), row), default=None)


class LargerPlans(unittest.TestCase):
    """Plans of 20 cells, with prices found without the package."""

    def check(self, text, hole_count, goals, free, seed):
        yard = Yard(text)
        prices = yard.prices(hole_count, goals, free)
        dice = random.Random(seed)
        for turn in range(4):
            numbers = random_standing(dice, yard.size, hole_count)
            standing = [pallet for pallet in numbers if pallet]
            pallets = dice.sample(standing, dice.choice([1, 3, len(standing)]))
            row = slow_first_row(yard, prices, numbers, pallets)
            answer = [-5] if row is None else [0, len(row)] + flat(row)
            fetched, ran = ask(load(text), stand(numbers), fetch(pallets, goals, free), run(flat(row or [])))[2:]
            self.assertEqual(fetched, answer, (text, numbers, pallets, goals, free))
            self.assertEqual(ran, [0, len(row or [])])

    def test_grid(self):
        self.check(GRID, 3, [], [], 1)
        self.check(GRID, 2, [19, 4], [10], 2)
        self.check(GRID, 1, [7], [], 3)

    def test_tower(self):
        self.check(TOWER, 3, [], [3, 9, 19], 4)
        self.check(TOWER, 2, [19], [], 5)

    def test_ring(self):
        self.check(RING, 3, [], [], 6)
        self.check(RING, 1, [12], [3], 7)


if __name__ == "__main__":
    unittest.main()
