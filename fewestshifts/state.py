"""What one object holds between its calls."""

from fewestshifts.maze import Maze
from fewestshifts.standing import empty_cells


class State:
    """The plan that is held and what stands on it, each None if there is none."""

    def __init__(self):
        self.plan = None
        self.standing = None
        # Kept by the number of holes, since making a maze takes about as long as finding prices in it.
        self.mazes = {}

    def hold(self, plan):
        self.plan = plan
        self.standing = None
        self.mazes = {}

    def holes_now(self):
        """How many cells are empty now."""
        return len(empty_cells(self.standing))

    def maze(self):
        """The maze of all places with as many holes as there are now."""
        return self.maze_with(self.holes_now())

    def maze_with(self, hole_count):
        """The maze of all places with so many holes."""
        if hole_count not in self.mazes:
            self.mazes[hole_count] = Maze(self.plan.neighbours, hole_count)
        return self.mazes[hole_count]

    def place(self, pallet):
        return self.place_in(self.standing, pallet)

    def place_in(self, standing, pallet):
        """The pallet's place in a standing with as many empty cells as there are now."""
        return self.maze().place(standing.index(pallet), empty_cells(standing))

    def goals(self, told_goals):
        """The cells where a wish wants the car: those that are told, or all with cabins if none are."""
        return list(told_goals) if told_goals else list(self.plan.cabins)

    def prices_for(self, told_goals, wanted):
        """The prices of the places with as many holes as there are now."""
        return self.prices_with(self.holes_now(), told_goals, wanted)

    def prices_with(self, hole_count, told_goals, wanted):
        """The prices of the places with so many holes."""
        return self.maze_with(hole_count).prices_for(self.goals(told_goals), wanted)
