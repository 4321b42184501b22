"""Refusals: each function answers the refusal that is due, or an empty list if none is."""

from fewestshifts.maze import MOST_HOLES, is_place
from fewestshifts.standing import is_row_of_shifts

NO_HOLES = -1
NO_PALLET = -3
NO_CELL = -4
NOT_DONE = -5
FAULT = -6
TOO_MANY = -7
NOTHING_STANDS = -8
NO_PLAN = -9


def has_twice(row):
    return len(set(row)) != len(row)


def refuse_pallets(state, pallets):
    """Due if there are no pallets, if one doesn't stand, or if one is there twice."""
    if not pallets or has_twice(pallets):
        return [NO_PALLET]
    if any([pallet == 0 or pallet not in state.standing for pallet in pallets]):
        return [NO_PALLET]
    return []


def refuse_cell(state, cell):
    """Due if there is no such cell."""
    return [NO_CELL] if cell >= state.plan.cell_count else []


def refuse_wish(state, goals, wanted):
    """Due if the wish can't be with as many holes as there are now."""
    return refuse_wish_with(state, state.holes_now(), goals, wanted)


def refuse_wish_with(state, hole_count, goals, wanted):
    """Due if the wish can't be with so many holes."""
    if any([cell >= state.plan.cell_count for cell in goals + wanted]):
        return [NO_CELL]
    if has_twice(goals) or has_twice(wanted) or len(wanted) > hole_count:
        return [NO_CELL]
    return []


def refuse_hole_count(state, hole_count):
    """Due if there are no places with so many holes."""
    if 1 <= hole_count <= MOST_HOLES and hole_count < state.plan.cell_count:
        return []
    return [NO_HOLES]


def refuse_place(state, car, holes):
    """Due if these are no place."""
    return [] if is_place(state.plan.cell_count, car, holes) else [NO_CELL]


def refuse_row(state, numbers):
    """Due if the numbers tell no row of shifts between cells that there are."""
    return [] if is_row_of_shifts(state.plan.cell_count, numbers) else [NO_CELL]


def refuse_undone(shifts, along):
    """Due if the standings along the shifts end before a shift that can't be done."""
    done = len(along) - 1
    return [NOT_DONE, done] if done < len(shifts) else []
