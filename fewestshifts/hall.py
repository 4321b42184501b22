"""The calls on one object, and the one list that tells them all."""

from fewestshifts.least import cheaper_shifts, count_least_rows, first_least_row, least_price
from fewestshifts.maze import price_of
from fewestshifts.plan import read_plan
from fewestshifts.refusals import FAULT, NO_CELL, NO_PLAN, NOT_DONE, NOTHING_STANDS
from fewestshifts.refusals import refuse_pallets, refuse_row, refuse_undone, refuse_wish
from fewestshifts.standing import shifts_of, standings_along, why_no_standing
from fewestshifts.state import State


class Search:
    """The places of some pallets and the prices for a wish, or the refusal that is due."""

    def __init__(self, state, pallets, goals, wanted):
        self.places = []
        self.prices = []
        self.refusal = refuse_pallets(state, pallets) or refuse_wish(state, goals, wanted)
        if not self.refusal:
            self.places = [state.place(pallet) for pallet in pallets]
            self.prices = state.prices_for(goals, wanted)
            if least_price(self.prices, self.places) < 0:
                self.refusal = [NOT_DONE]


def numbers_of(shifts):
    numbers = []
    for start, end in shifts:
        numbers.extend([start, end])
    return numbers


def call_load(state, given):
    read = read_plan(given[0])
    plan = read[0]
    if plan is None:
        return [FAULT] + read[1]
    state.hold(plan)
    return [0, plan.cell_count, len(plan.cabins)]


def call_stand(state, given):
    why = why_no_standing(state.plan.cell_count, given[0])
    if why != 0:
        return [FAULT, why]
    state.standing = list(given[0])
    return [0]


def call_told(state, given):
    return [0] + state.standing


def call_near(state, given):
    cell = given[0]
    if cell >= state.plan.cell_count:
        return [NO_CELL]
    return [0] + state.plan.neighbours[cell]


def call_run(state, given):
    refusal = refuse_row(state, given[0])
    if refusal:
        return refusal
    shifts = shifts_of(given[0])
    along = standings_along(state.plan.neighbours, state.standing, shifts)
    refusal = refuse_undone(shifts, along)
    if refusal:
        return refusal
    state.standing = along[-1]
    return [0, len(shifts)]


def call_fetch(state, given):
    search = Search(state, given[0], given[1], given[2])
    if search.refusal:
        return search.refusal
    row = first_least_row(state.maze(), search.prices, search.places)
    return [0, len(row)] + numbers_of(row)


def call_go(state, given):
    fetched = call_fetch(state, given)
    if fetched[0] < 0:
        return fetched
    along = standings_along(state.plan.neighbours, state.standing, shifts_of(fetched[2:]))
    state.standing = along[-1]
    # The cells wanted empty are so for every pallet alike: which of them meet the wish hangs on their cells alone.
    goals = state.goals(given[1])
    brought = min([pallet for pallet in given[0] if state.standing.index(pallet) in goals])
    return [0, fetched[1], brought, state.standing.index(brought)]


def call_firsts(state, given):
    search = Search(state, [given[0]], given[1], given[2])
    if search.refusal:
        return search.refusal
    shifts = cheaper_shifts(state.maze(), search.prices, search.places[0])
    return [0, len(shifts)] + numbers_of(shifts)


def call_ways(state, given):
    search = Search(state, [given[0]], given[1], given[2])
    if search.refusal:
        return search.refusal
    return [0, count_least_rows(state.maze(), search.prices, search.places[0])]


def call_weigh(state, given):
    pallet = given[0]
    refusal = refuse_pallets(state, [pallet]) or refuse_wish(state, given[1], given[2]) or refuse_row(state, given[3])
    if refusal:
        return refusal
    shifts = shifts_of(given[3])
    along = standings_along(state.plan.neighbours, state.standing, shifts)
    refusal = refuse_undone(shifts, along)
    if refusal:
        return refusal
    prices = state.prices_for(given[1], given[2])
    told = [price_of(prices, state.place_in(standing, pallet)) for standing in along]
    is_least = told[0] == len(shifts) and told[-1] == 0
    return [0, 1 if is_least else 0] + told


def call_all(state, given):
    refusal = refuse_wish(state, given[0], given[1])
    if refusal:
        return refusal
    prices = state.prices_for(given[0], given[1])
    priceless = 0
    told = []
    for pallet in state.standing:
        if pallet != 0:
            price = price_of(prices, state.place(pallet))
            priceless += 1 if price < 0 else 0
            told.extend([pallet, price])
    return [0, priceless] + told


# For each call's number: how many whole numbers it has, how many rows, whether -8 is told with it, what answers it.
CALLS = {
    0: (0, 1, False, call_load),
    1: (0, 1, False, call_stand),
    2: (0, 0, True, call_told),
    3: (1, 0, False, call_near),
    4: (0, 1, True, call_run),
    5: (0, 3, True, call_fetch),
    6: (0, 3, True, call_go),
    7: (1, 2, True, call_firsts),
    8: (1, 2, True, call_ways),
    9: (1, 3, True, call_weigh),
    10: (0, 2, True, call_all),
}


def answers(calls):
    """For each call on one new object, in order: how many numbers are answered, and these."""
    state = State()
    told = []
    at = 0
    while at < len(calls):
        number = calls[at]
        given = read_given(calls, at + 1, CALLS[number][0], CALLS[number][1])
        answer = answer_call(state, number, given)
        told.append(len(answer))
        told.extend(answer)
        at += 1 + numbers_taken(given)
    return told


def read_given(calls, begin, number_count, row_count):
    """The call's whole numbers and then its rows, which begin at this place of the list."""
    at = begin + number_count
    given = calls[begin:at]
    while len(given) < number_count + row_count:
        end = at + 1 + calls[at]
        given.append(calls[at + 1:end])
        at = end
    return given


def numbers_taken(given):
    """How many numbers of the list of calls these were; before each row stands how many it has."""
    return sum([1 + len(part) if isinstance(part, list) else 1 for part in given])


def answer_call(state, number, given):
    if state.plan is None and number != 0:
        return [NO_PLAN]
    if CALLS[number][2] and state.standing is None:
        return [NOTHING_STANDS]
    answerer = CALLS[number][3]
    return answerer(state, given)
