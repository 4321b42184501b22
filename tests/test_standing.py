"""stand, told, near and run."""

import random
import unittest

from tests.helper import GREATEST, Yard, ask, ask_last, flat, load, near, park, random_standing, run, stand, told

THREE_FLOORS = park("C.L .#.", "..L #..", "L.L ...")


class Stand(unittest.TestCase):
    def check(self, numbers, answer, text=park("C....")):
        self.assertEqual(ask(load(text), stand(numbers))[1], answer, numbers)

    def test_what_stands_is_told(self):
        for numbers in ([1, 2, 3, 4, 0], [99, 0, 1, 0, 50], [0, 0, 7, 0, 8]):
            self.assertEqual(ask(load(park("C....")), stand(numbers), told()), [[0, 5, 1], [0], [0] + numbers])

    def test_another_standing_takes_its_place(self):
        calls = [load(park("C..")), stand([1, 2, 0]), stand([0, 9, 0]), told()]
        self.assertEqual(ask_last(*calls), [0, 0, 9, 0])

    def test_not_as_many_as_cells(self):
        for numbers in ([], [0], [1, 2, 3, 0], [1, 2, 3, 4, 5, 0], [0] * 1000, [GREATEST] * 1000):
            self.check(numbers, [-6, 1])

    def test_above_ninety_nine(self):
        self.check([99, 98, 1, 2, 0], [0])
        for pallet in (100, 101, 1000, GREATEST):
            self.check([1, 2, pallet, 4, 0], [-6, 2])
        self.check([0, 1, 2, 3, 100], [-6, 2])

    def test_a_pallet_twice(self):
        self.check([1, 2, 3, 1, 0], [-6, 3])
        self.check([99, 99, 0, 0, 1], [-6, 3])

    def test_empty_cells(self):
        self.check([1, 2, 3, 4, 0], [0])
        self.check([1, 0, 0, 4, 0], [0])
        self.check([1, 2, 3, 4, 5], [-6, 4])
        self.check([0, 0, 0, 4, 0], [-6, 4])
        self.check([0] * 5, [-6, 4])

    def test_no_pallet_at_all(self):
        self.check([0], [0], park("C"))
        self.check([1], [-6, 4], park("C"))
        self.check([0, 0, 0], [0], park("C.."))
        self.check([0, 0, 0, 0], [-6, 4], park("C..."))

    def test_of_several_reasons_the_least(self):
        self.check([100, 100, 0, 0], [-6, 1])
        self.check([1, 1, 1, 1], [-6, 1])
        self.check([100, 1, 1, 0, 0], [-6, 2])
        self.check([100, 100, 1, 2, 3], [-6, 2])
        self.check([100, 0, 0, 0, 0], [-6, 2])
        self.check([1, 1, 2, 3, 4], [-6, 3])

    def test_a_refused_standing_changes_nothing(self):
        for wrong in ([], [1, 2, 300, 4, 0], [1, 1, 2, 3, 0], [0, 0, 0, 0, 1], [1, 2, 3, 4, 5]):
            calls = [load(park("C....")), stand([1, 2, 3, 4, 0]), stand(wrong), told()]
            self.assertEqual(ask_last(*calls), [0, 1, 2, 3, 4, 0])
            self.assertEqual(ask_last(load(park("C....")), stand(wrong), told()), [-8])

    def test_twenty_cells(self):
        numbers = list(range(80, 97)) + [0, 0, 0]
        self.assertEqual(ask_last(load(park("C.... ..... ..... .....")), stand(numbers), told()), [0] + numbers)


class Near(unittest.TestCase):
    def check(self, text, cell, cells):
        self.assertEqual(ask_last(load(text), near(cell)), [0] + cells)

    def test_on_one_floor(self):
        text = park("C.. ... ...")
        for cell, cells in enumerate([[1, 3], [0, 2, 4], [1, 5], [0, 4, 6], [1, 3, 5, 7], [2, 4, 8], [3, 7],
                                      [4, 6, 8], [5, 7]]):
            self.check(text, cell, cells)

    def test_squares_without_cells_count_for_nothing(self):
        text = park(".#C ...")
        for cell, cells in enumerate([[2], [4], [0, 3], [2, 4], [1, 3]]):
            self.check(text, cell, cells)

    def test_one_cell_alone(self):
        self.check(park("C"), 0, [])

    def test_lifts_on_floors_that_follow(self):
        text = park("CL", ".L", "L.", "L.")
        self.assertEqual(ask_last(load(text)), [-6, 6, 9])
        text = park("CL", "LL", "L.")
        for cell, cells in enumerate([[1], [0, 3], [3, 4], [1, 2], [2, 5], [4]]):
            self.check(text, cell, cells)

    def test_lifts_need_each_other(self):
        text = park("CL. ...", ".L. .C.")
        for cell, cells in enumerate([[1, 3], [0, 2, 4, 7], [1, 5], [0, 4], [1, 3, 5], [2, 4], [7, 9], [1, 6, 8, 10],
                                      [7, 11], [6, 10], [7, 9, 11], [8, 10]]):
            self.check(text, cell, cells)

    def test_a_cell_that_there_is_not(self):
        for cell in (3, 4, 20, 99, GREATEST):
            self.assertEqual(ask_last(load(park("C..")), near(cell)), [-4])

    def test_every_cell_of_a_larger_plan(self):
        yard = Yard(THREE_FLOORS)
        for cell in range(yard.size):
            self.check(THREE_FLOORS, cell, sorted(yard.near[cell]))

    def test_it_may_be_asked_before_something_stands(self):
        self.assertEqual(ask(load(park("C.")), near(0), told()), [[0, 2, 1], [0, 1], [-8]])


class Run(unittest.TestCase):
    line = park("C....")

    def check(self, numbers, row, answer, behind, text=None):
        calls = [load(text or self.line), stand(numbers), run(row), told()]
        self.assertEqual(ask(*calls)[2:], [answer, [0] + behind])

    def test_rows_that_can_be_done(self):
        self.check([1, 2, 0, 3, 4], [1, 2], [0, 1], [1, 0, 2, 3, 4])
        self.check([1, 2, 0, 3, 4], [3, 2, 4, 3], [0, 2], [1, 2, 3, 4, 0])
        self.check([1, 0, 0, 3, 4], [0, 1, 1, 2, 2, 1], [0, 3], [0, 1, 0, 3, 4])

    def test_no_shift(self):
        self.check([1, 2, 0, 3, 4], [], [0, 0], [1, 2, 0, 3, 4])

    def test_between_floors(self):
        self.check([1, 2, 3, 0], [1, 3], [0, 1], [1, 0, 3, 2], park("CL", ".L"))
        self.check([1, 2, 3, 0], [0, 2], [-5, 0], [1, 2, 3, 0], park("CL", ".L"))

    def test_an_odd_number_of_numbers(self):
        for row in ([1], [1, 2, 3], [1, 2, 2, 1, 0], [0] * 999):
            self.check([1, 2, 0, 3, 4], row, [-4], [1, 2, 0, 3, 4])

    def test_cells_that_there_are_not(self):
        for row in ([5, 4], [4, 5], [1, 2, 2, 5], [GREATEST, 0], [1, 2, 2, 1, 1, 2, GREATEST, GREATEST]):
            self.check([1, 2, 0, 3, 4], row, [-4], [1, 2, 0, 3, 4])

    def test_such_cells_come_before_shifts_that_can_not_be_done(self):
        self.check([1, 2, 0, 3, 4], [0, 0, 5, 4], [-4], [1, 2, 0, 3, 4])
        self.check([1, 2, 0, 3, 4], [0, 0, 1], [-4], [1, 2, 0, 3, 4])

    def test_the_first_shift_that_can_not_be_done(self):
        numbers = [1, 2, 0, 3, 4]
        self.check(numbers, [0, 1], [-5, 0], numbers)
        self.check(numbers, [2, 1], [-5, 0], numbers)
        self.check(numbers, [2, 2], [-5, 0], numbers)
        self.check(numbers, [0, 2], [-5, 0], numbers)
        self.check(numbers, [1, 2, 1, 2], [-5, 1], numbers)
        self.check(numbers, [1, 2, 0, 1, 4, 0, 0, 0], [-5, 2], numbers)
        self.check(numbers, [1, 2, 0, 1, 1, 0, 2, 1, 0, 4], [-5, 4], numbers)

    def test_an_empty_cell_is_not_shifted(self):
        self.check([1, 0, 0, 3, 4], [1, 2], [-5, 0], [1, 0, 0, 3, 4])

    def test_five_hundred_shifts(self):
        self.check([1, 2, 0, 3, 4], [1, 2, 2, 1] * 250, [0, 500], [1, 2, 0, 3, 4])
        self.check([1, 2, 0, 3, 4], [1, 2, 2, 1] * 249 + [1, 2, 1, 2], [-5, 499], [1, 2, 0, 3, 4])

    def test_shifts_of_a_larger_plan(self):
        yard = Yard(THREE_FLOORS)
        dice = random.Random(3)
        for turn in range(60):
            before = random_standing(dice, yard.size, dice.randint(1, 3))
            here = tuple(before)
            row = []
            for step in range(dice.randint(0, 30)):
                row.append(dice.choice(yard.shifts(here)))
                here = yard.after(here, row[-1])
            self.check(before, flat(row), [0, len(row)], list(here), THREE_FLOORS)

    def test_just_the_shifts_that_can_be_done(self):
        yard = Yard(THREE_FLOORS)
        dice = random.Random(4)
        for hole_count in (1, 2, 3):
            numbers = random_standing(dice, yard.size, hole_count)
            start = [load(THREE_FLOORS), stand(numbers)]
            tries = [(a, b) for a in range(yard.size) for b in range(yard.size)]
            asked = [ask_last(*start, run([a, b])) for a, b in tries]
            done = [shift for shift, answer in zip(tries, asked) if answer == [0, 1]]
            self.assertEqual(done, yard.shifts(numbers))
            self.assertEqual([answer for answer in asked if answer != [0, 1]], [[-5, 0]] * (len(tries) - len(done)))


if __name__ == "__main__":
    unittest.main()
