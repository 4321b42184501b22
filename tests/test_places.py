"""price, spread, hardest, stuck and cell: what all places are worth, whatever stands."""

import random
import unittest

from tests.helper import (GREATEST, SMALL_PLANS, Yard, ask, ask_each, ask_last, cell_of, hardest, load, park, price,
                          price_all, random_case, random_standing, random_wish, run, spread, stand, stuck, told)

LINE = park("C..")
SQUARE = park("C. ..")
GRID = park("C.... ..... ..... .....")
TREE = park("..C..... .#.#.#.# .#.#.#.#")
TOWER = park("LLC L##", "LLL L#L", "LLL L#L", "LLL LL.")
WRONG_WISHES = (([4], []), ([0, GREATEST], []), ([], [4]), ([], [GREATEST]), ([1, 1], []), ([3, 0, 3], []),
                ([], [1, 1]), ([0] * 1000, []), ([], [0] * 1000), (list(range(1000)), []), ([], [0, 1, 2, 3]))


def yards_and_wishes(seed, turns, plans=SMALL_PLANS):
    """Plans, a number of holes that there are places with, and wishes that can be with it."""
    dice = random.Random(seed)
    for text in plans:
        yard = Yard(text)
        for hole_count in range(1, min(4, yard.size)):
            for turn in range(turns):
                yield text, yard, hole_count, *random_wish(dice, yard, hole_count)


class Price(unittest.TestCase):
    def check(self, text, asked, answer):
        self.assertEqual(ask(load(text), price(*asked), told())[1:], [answer, [-8]])

    def test_prices(self):
        self.check(LINE, (0, [1]), [0, 0])
        self.check(LINE, (1, [0]), [0, 1])
        self.check(LINE, (2, [0, 1]), [0, 2])
        self.check(LINE, (0, [1, 2], [2]), [0, 2])
        self.check(SQUARE, (1, [3]), [0, 3])
        self.check(SQUARE, (1, [0, 2, 3]), [0, 1])
        self.check(SQUARE, (3, [0, 1, 2]), [0, 2])
        self.check(SQUARE, (1, [3], [], [3]), [0, 4])
        self.check(SQUARE, (1, [2, 3], [1], [0, 2]), [0, 2])

    def test_no_price(self):
        self.check(LINE, (1, [2]), [-5])
        self.check(LINE, (2, [1]), [-5])
        self.check(LINE, (0, [1], [0], [0]), [-5])
        self.check(SQUARE, (0, [1, 2, 3], [1, 2], [1, 2]), [-5])

    def test_cells_that_there_are_not(self):
        for car, holes in ((4, [0]), (GREATEST, [0, 1]), (0, [4]), (0, [1, GREATEST]), (0, [1, 2, 4]), (4, [4]),
                           (GREATEST, [GREATEST]), (9, [7, 8])):
            self.check(SQUARE, (car, holes), [-4])

    def test_holes_that_do_not_rise(self):
        for holes in ([2, 1], [1, 3, 2], [3, 2, 1], [2, 1, 3], [1, 1], [1, 2, 2], [1, 1, 2]):
            self.check(SQUARE, (0, holes), [-4])

    def test_the_car_in_a_hole(self):
        for car, holes in ((0, [0]), (1, [0, 1]), (3, [0, 1, 3]), (0, [0, 1, 2])):
            self.check(SQUARE, (car, holes), [-4])

    def test_no_holes_or_more_than_three(self):
        self.check(SQUARE, (0, []), [-4])
        self.check(park("C...."), (0, [1, 2, 3]), [0, 0])
        self.check(park("C...."), (0, [1, 2, 3, 4]), [-4])
        self.check(SQUARE, (0, list(range(1000))), [-4])
        self.check(SQUARE, (0, [GREATEST] * 1000), [-4])
        self.check(park("C"), (0, []), [-4])
        self.check(park("C"), (0, [0]), [-4])

    def test_wishes_that_can_not_be(self):
        for wish in WRONG_WISHES:
            for holes in ([1], [1, 2], [1, 2, 3]):
                self.check(SQUARE, (0, holes, *wish), [-4])
            self.check(SQUARE, (0, [0], *wish), [-4])

    def test_more_cells_wanted_empty_than_there_are_holes(self):
        self.check(SQUARE, (0, [1], [], [1]), [0, 0])
        self.check(SQUARE, (0, [1], [], [1, 2]), [-4])
        self.check(SQUARE, (0, [1, 2], [], [1, 2]), [0, 0])
        self.check(SQUARE, (0, [1, 2], [], [1, 2, 3]), [-4])
        self.check(SQUARE, (0, [1, 2, 3], [], [1, 2, 3]), [0, 0])

    def test_what_stands_does_not_matter(self):
        """Not even how many cells are empty, by which other calls hold a wish."""
        for numbers in ([1, 2, 3, 0], [0, 2, 0, 1], [0, 0, 0, 9]):
            calls = [price(1, [3]), price(1, [0, 2, 3]), price(0, [1], [], [1, 2]), price(0, [1, 2], [], [1, 2]),
                     price(0, [1, 2, 3], [3], [0, 1, 2])]
            self.assertEqual(ask(load(SQUARE), stand(numbers), *calls, told())[2:],
                             [[0, 3], [0, 1], [-4], [0, 0], [0, 2], [0] + numbers])

    def test_all_places(self):
        for text, yard, hole_count, goals, free in yards_and_wishes(71, 3):
            places = yard.places(hole_count)
            answers = [[0, one] if one >= 0 else [-5] for one in yard.listed_prices(hole_count, goals, free)]
            calls = [price(place[0], place[1:], goals, free) for place in places]
            self.assertEqual(ask_each([load(text)], calls), answers, (text, goals, free))

    def test_larger_plans(self):
        dice = random.Random(72)
        for text, yard, hole_count, goals, free in yards_and_wishes(73, 1, (GRID, TOWER, TREE)):
            listed = list(zip(yard.places(hole_count), yard.listed_prices(hole_count, goals, free)))
            some = dice.sample(listed, 12)
            calls = [price(place[0], place[1:], goals, free) for place, one in some]
            self.assertEqual(ask_each([load(text)], calls), [[0, one] if one >= 0 else [-5] for place, one in some])

    def test_as_all_tells_of_what_stands(self):
        dice = random.Random(74)
        for text in SMALL_PLANS + (TREE,):
            numbers, goals, free = random_case(dice, Yard(text))
            holes = [cell for cell, one in enumerate(numbers) if one == 0]
            told_prices = ask_last(load(text), stand(numbers), price_all(goals, free))[3::2]
            calls = [price(cell, holes, goals, free) for cell, one in enumerate(numbers) if one]
            answers = [[0, one] if one >= 0 else [-5] for one in told_prices]
            self.assertEqual(ask_each([load(text)], calls), answers)


class Surveys(unittest.TestCase):
    """spread, hardest, stuck and cell, before anything stands and with any number of empty cells."""

    def check(self, text, asked, answer):
        size = Yard(text).size
        self.assertEqual(ask(load(text), asked, told())[1:], [answer, [-8]])
        for empty in range(1, min(4, size + 1)):
            numbers = [0] * empty + list(range(1, size + 1 - empty))
            self.assertEqual(ask(load(text), stand(numbers), asked, told())[2:], [answer, [0] + numbers])

    def test_places_without_a_price(self):
        self.check(LINE, spread(1), [0, 3, 2, 1])
        self.check(LINE, hardest(1), [0, 1, 1, 0])
        self.check(LINE, stuck(1), [0, 3, 1, 2])
        self.check(LINE, cell_of(0, 1), [0, 2, 0, 0, 0, 0])
        self.check(LINE, cell_of(1, 1), [0, 1, 1, 1, 1, 1])
        self.check(LINE, cell_of(2, 1), [0, 0, 0, 0, 0, 2])

    def test_all_places_have_one(self):
        self.check(LINE, spread(2), [0, 0, 1, 1, 1])
        self.check(LINE, hardest(2), [0, 2, 2, 0, 1])
        self.check(LINE, stuck(2), [0, 0])
        self.check(LINE, cell_of(0, 2), [0, 1, 0, 0, 0, 0])
        self.check(LINE, cell_of(2, 2), [0, 1, 2, 2, 2, 0])
        self.check(SQUARE, spread(1), [0, 0, 3, 2, 2, 2, 2, 1])
        self.check(SQUARE, hardest(1), [0, 5, 3, 0])
        self.check(SQUARE, stuck(1), [0, 0])
        self.check(SQUARE, cell_of(1, 1), [0, 3, 6, 1, 3, 0])
        self.check(SQUARE, cell_of(3, 1), [0, 3, 13, 4, 5, 0])

    def test_three_holes(self):
        self.check(SQUARE, spread(3), [0, 0, 1, 2, 1])
        self.check(SQUARE, hardest(3), [0, 2, 3, 0, 1, 2])
        self.check(SQUARE, stuck(3), [0, 0])
        self.check(SQUARE, cell_of(3, 3), [0, 1, 2, 2, 2, 0])

    def test_two_cells(self):
        self.check(park("C."), spread(1), [0, 0, 1, 1])
        self.check(park("C."), hardest(1), [0, 1, 1, 0])
        self.check(park("C."), stuck(1), [0, 0])
        self.check(park("C."), cell_of(1, 1), [0, 1, 1, 1, 1, 0])

    def test_no_place_meets_the_wish(self):
        self.check(LINE, spread(1, [0], [0]), [0, 6])
        self.check(LINE, hardest(1, [0], [0]), [-5])
        self.check(LINE, stuck(1, [0], [0]), [0, 6, 0, 1])
        self.check(LINE, cell_of(2, 1, [0], [0]), [0, 0, 0, 0, 0, 2])
        self.check(SQUARE, stuck(3, [1, 2], [2, 1]), [0, 4, 0, 1, 2, 3])
        self.check(SQUARE, spread(2, [1, 2], [2, 1]), [0, 12])

    def test_every_price_is_0(self):
        self.check(LINE, spread(2, [0, 1, 2]), [0, 0, 3])
        self.check(LINE, hardest(2, [2, 0, 1]), [0, 0, 0, 1, 2])
        self.check(LINE, cell_of(1, 2, [2, 0, 1]), [0, 1, 0, 0, 0, 0])

    def test_the_first_place_in_order(self):
        self.check(park("C. .."), hardest(1, [0], [3]), [0, 6, 3, 0])
        self.check(park(".C."), hardest(1), [0, 2, 0, 2])
        self.check(park(".C."), hardest(2), [0, 1, 0, 1, 2])
        self.check(park("C..."), stuck(2), [0, 6, 1, 2, 3])
        self.check(park("...C"), stuck(1), [0, 8, 0, 1])
        self.check(park("...C"), stuck(2), [0, 6, 0, 1, 2])

    def test_numbers_of_holes(self):
        for text, right in ((park("C"), ()), (park("C."), (1,)), (LINE, (1, 2)), (SQUARE, (1, 2, 3)),
                            (park("C...."), (1, 2, 3))):
            for hole_count in (0, 1, 2, 3, 4, 5, 6, GREATEST):
                asked = [spread(hole_count), hardest(hole_count), stuck(hole_count), cell_of(0, hole_count)]
                for answer in ask(load(text), *asked)[1:]:
                    if hole_count in right:
                        self.assertEqual(answer[0], 0)
                    else:
                        self.assertEqual(answer, [-1])

    def test_a_wrong_number_of_holes_goes_before_a_wish_that_can_not_be(self):
        for hole_count in (0, 4, 5, GREATEST):
            for wish in WRONG_WISHES:
                for asked in (spread, hardest, stuck):
                    self.check(SQUARE, asked(hole_count, *wish), [-1])
                self.check(SQUARE, cell_of(0, hole_count, *wish), [-1])
                self.check(SQUARE, cell_of(4, hole_count, *wish), [-1])
            self.check(SQUARE, cell_of(4, hole_count), [-1])
            self.check(SQUARE, cell_of(GREATEST, hole_count), [-1])

    def test_wishes_that_can_not_be(self):
        for hole_count in (1, 2, 3):
            for wish in WRONG_WISHES + (([], list(range(hole_count + 1))),):
                for asked in (spread, hardest, stuck):
                    self.check(SQUARE, asked(hole_count, *wish), [-4])
                self.check(SQUARE, cell_of(0, hole_count, *wish), [-4])
                self.check(SQUARE, cell_of(4, hole_count, *wish), [-4])

    def test_as_many_cells_wanted_empty_as_holes(self):
        self.check(SQUARE, spread(1, [], [3]), [0, 0, 1, 2, 2, 2, 2, 2, 1])
        self.check(SQUARE, stuck(2, [], [3, 1]), [0, 0])
        self.check(SQUARE, hardest(3, [], [3, 1, 2]), [0, 2, 3, 0, 1, 2])
        self.check(SQUARE, cell_of(3, 3, [], [3, 1, 2]), [0, 1, 2, 2, 2, 0])

    def test_cells_that_there_are_not(self):
        for cell in (4, 5, 20, GREATEST):
            self.check(SQUARE, cell_of(cell, 1), [-4])
            self.check(SQUARE, cell_of(cell, 3, [3], [0]), [-4])

    def against_a_search(self, text, yard, hole_count, goals, free):
        places = yard.places(hole_count)
        listed = yard.listed_prices(hole_count, goals, free)
        greatest = max(listed)
        lacking = [place for place, one in zip(places, listed) if one < 0]
        dearest = places[listed.index(greatest)]
        asked = [spread(hole_count, goals, free), hardest(hole_count, goals, free), stuck(hole_count, goals, free)]
        answers = [[0] + [listed.count(one) for one in range(-1, greatest + 1)],
                   [0, greatest, *dearest] if greatest >= 0 else [-5],
                   [0, len(lacking)] + (lacking[0] if lacking else [])]
        for cell in range(yard.size):
            here = [one for place, one in zip(places, listed) if place[0] == cell]
            priced = [one for one in here if one >= 0]
            summed = [sum(priced), min(priced), max(priced)] if priced else [0, 0, 0]
            asked.append(cell_of(cell, hole_count, goals, free))
            answers.append([0, len(priced), *summed, len(here) - len(priced)])
        self.assertEqual(ask_each([load(text)], asked), answers, (text, hole_count, goals, free))

    def test_against_a_search(self):
        for case in yards_and_wishes(75, 8):
            self.against_a_search(*case)

    def test_larger_plans(self):
        for case in yards_and_wishes(76, 1, (GRID, TOWER, TREE)):
            self.against_a_search(*case)

    def test_twenty_cells_with_three_holes(self):
        yard = Yard(GRID)
        self.against_a_search(GRID, yard, 3, [], [])
        answer = ask_last(load(GRID), spread(3))
        self.assertEqual(sum(answer), 20 * 19 * 18 * 17 // 6)
        self.assertEqual(answer[1:3], [0, 19 * 18 * 17 // 6])

    def test_another_plan_on_the_same_object(self):
        calls = [load(LINE), spread(1), load(SQUARE), spread(1), price(1, [3]), load(park("C.")), spread(1), spread(2),
                 stand([1, 0]), run([0, 1]), cell_of(1, 1)]
        self.assertEqual(ask(*calls)[1:], [[0, 3, 2, 1], [0, 4, 1], [0, 0, 3, 2, 2, 2, 2, 1], [0, 3], [0, 2, 1],
                                           [0, 0, 1, 1], [-1], [0], [0, 1], [0, 1, 1, 1, 1, 0]])

    def test_several_numbers_of_holes_on_one_object(self):
        calls = [spread(1), spread(2), stuck(1), stuck(2), hardest(2), hardest(1), cell_of(2, 1), cell_of(2, 2)]
        self.assertEqual(ask(load(LINE), stand([1, 2, 0]), *calls, told())[2:],
                         [[0, 3, 2, 1], [0, 0, 1, 1, 1], [0, 3, 1, 2], [0, 0], [0, 2, 2, 0, 1], [0, 1, 1, 0],
                          [0, 0, 0, 0, 0, 2], [0, 1, 2, 2, 2, 0], [0, 1, 2, 0]])


if __name__ == "__main__":
    unittest.main()
