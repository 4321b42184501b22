"""The maze's rows of holes, places and shifts, whose order the calls rely on."""

import itertools
import unittest

from fewestshifts.maze import Maze, rising_rows
from tests.helper import Yard, park


class Order(unittest.TestCase):
    def test_rising_rows(self):
        for cell_count in range(1, 8):
            for length in (1, 2, 3):
                rows = list(itertools.combinations(range(cell_count), length))
                self.assertEqual(rising_rows(cell_count, length), rows)

    def test_places_compare_in_their_order(self):
        maze = Maze([[1], [0, 2], [1, 3], [2]], 2)
        rows = [[0, 1, 2], [0, 1, 3], [0, 2, 3], [1, 0, 2], [1, 2, 3], [2, 0, 1], [2, 0, 3], [3, 1, 2]]
        places = [maze.place(row[0], row[1:]) for row in rows]
        self.assertEqual(places, sorted(places))

    def test_all_places_and_their_numbers(self):
        yard = Yard(park("CL. ...", "#L. ..#"))
        for hole_count in (1, 2, 3):
            maze = Maze([sorted(cells) for cells in yard.near], hole_count)
            places = maze.all_places()
            self.assertEqual(places, sorted(places))
            self.assertEqual([maze.tell(place) for place in places], yard.places(hole_count))
            self.assertEqual([maze.place_told(maze.tell(place)) for place in places], places)

    def test_places_that_meet_a_wish(self):
        maze = Maze([[1], [0, 2], [1, 3], [2]], 2)
        told = [maze.tell(place) for place in maze.meeting_places([3, 1], [2])]
        self.assertEqual(told, [[1, 0, 2], [1, 2, 3], [3, 0, 2], [3, 1, 2]])
        self.assertEqual(maze.meeting_places([2], [2]), [])

    def test_numbers_that_tell_no_place(self):
        maze = Maze([[1], [0, 2], [1, 3], [2]], 2)
        for numbers in ([], [0], [0, 1], [0, 1, 2, 3], [0, 0, 1], [0, 2, 1], [0, 1, 1], [4, 0, 1], [0, 1, 4]):
            self.assertIsNone(maze.place_told(numbers))

    def test_steps_are_in_order(self):
        yard = Yard(park("CL. ...", "#L. ..#"))
        maze = Maze([sorted(cells) for cells in yard.near], 3)
        for holes in itertools.combinations(range(yard.size), 3):
            for car in set(range(yard.size)) - set(holes):
                shifts = [step[:2] for step in maze.steps(maze.place(car, holes))]
                standing = [0 if cell in holes else 1 for cell in range(yard.size)]
                self.assertEqual(shifts, yard.shifts(standing))


if __name__ == "__main__":
    unittest.main()
