"""The calls on one object, and the one list that tells them all."""

from fewestshifts.least import cheaper_shifts, count_least_rows, first_least_row, least_by_cell
from fewestshifts.maze import price_of
from fewestshifts.plan import read_plan
from fewestshifts.proof import cut_entries, prices_told, why_unproved
from fewestshifts.refusals import FAULT, NO_PLAN, NOT_DONE, NOTHING_STANDS, TOO_MANY
from fewestshifts.refusals import refuse_cell, refuse_pallets, refuse_place, refuse_row, refuse_undone
from fewestshifts.refusals import refuse_wish, refuse_wish_with
from fewestshifts.search import Search, Survey, numbers_of, priced_pallets, priced_places
from fewestshifts.standing import empty_cells, shifts_of, standings_along, why_no_standing
from fewestshifts.state import State

MOST_KNOWN = 200


def call_load(state, given):
    read = read_plan(given[0])
    plan = read[0]
    if plan is None:
        return [FAULT] + read[1]
    state.hold(plan)
    return [0, plan.cell_count, len(plan.cabins)]


def call_stand(state, given):
    why = why_no_standing(state.plan.cell_count, given[0])
    if why != 0:
        return [FAULT, why]
    state.standing = list(given[0])
    return [0]


def call_told(state, given):
    return [0] + state.standing


def call_near(state, given):
    return refuse_cell(state, given[0]) or [0] + state.plan.neighbours[given[0]]


def call_run(state, given):
    refusal = refuse_row(state, given[0])
    if refusal:
        return refusal
    shifts = shifts_of(given[0])
    along = standings_along(state.plan.neighbours, state.standing, shifts)
    refusal = refuse_undone(shifts, along)
    if refusal:
        return refusal
    state.standing = along[-1]
    return [0, len(shifts)]


def call_fetch(state, given):
    search = Search(state, given[0], given[1], given[2])
    if search.refusal:
        return search.refusal
    row = first_least_row(state.maze(), search.prices, search.places)
    return [0, len(row)] + numbers_of(row)


def call_go(state, given):
    fetched = call_fetch(state, given)
    if fetched[0] < 0:
        return fetched
    along = standings_along(state.plan.neighbours, state.standing, shifts_of(fetched[2:]))
    state.standing = along[-1]
    # The cells wanted empty are so for every pallet alike: which of them meet the wish hangs on their cells alone.
    goals = state.goals(given[1])
    brought = min([pallet for pallet in given[0] if state.standing.index(pallet) in goals])
    return [0, fetched[1], brought, state.standing.index(brought)]


def call_firsts(state, given):
    search = Search(state, [given[0]], given[1], given[2])
    if search.refusal:
        return search.refusal
    shifts = cheaper_shifts(state.maze(), search.prices, search.places[0])
    return [0, len(shifts)] + numbers_of(shifts)


def call_ways(state, given):
    search = Search(state, [given[0]], given[1], given[2])
    if search.refusal:
        return search.refusal
    return [0, count_least_rows(state.maze(), search.prices, search.places[0])]


def call_weigh(state, given):
    pallet = given[0]
    refusal = refuse_pallets(state, [pallet]) or refuse_wish(state, given[1], given[2]) or refuse_row(state, given[3])
    if refusal:
        return refusal
    shifts = shifts_of(given[3])
    along = standings_along(state.plan.neighbours, state.standing, shifts)
    refusal = refuse_undone(shifts, along)
    if refusal:
        return refusal
    prices = state.prices_for(given[1], given[2])
    told = [price_of(prices, state.place_in(standing, pallet)) for standing in along]
    is_least = told[0] == len(shifts) and told[-1] == 0
    return [0, 1 if is_least else 0] + told


def call_all(state, given):
    refusal = refuse_wish(state, given[0], given[1])
    if refusal:
        return refusal
    priced = priced_pallets(state, given[0], given[1])
    return [0, len([pallet for pallet, price in priced if price < 0])] + numbers_of(priced)


def call_nearest(state, given):
    refusal = refuse_wish(state, given[0], given[1])
    if refusal:
        return refusal
    known = [(price, pallet) for pallet, price in priced_pallets(state, given[0], given[1]) if price >= 0]
    if not known:
        return [NOT_DONE]
    nearest = min(known)
    return [0, nearest[1], nearest[0]]


def call_map(state, given):
    refusal = refuse_pallets(state, given)
    if refusal:
        return refusal
    # What a shift does, a shift undoes: so each place is as far as its price for a wish that this place alone meets.
    prices = state.prices_for([state.standing.index(given[0])], empty_cells(state.standing))
    fewest = least_by_cell(prices, state.plan.cell_count)
    return [0, len([price for price in fewest if price >= 0])] + fewest


def call_price(state, given):
    car = given[0]
    holes = given[1]
    refusal = refuse_place(state, car, holes) or refuse_wish_with(state, len(holes), given[2], given[3])
    if refusal:
        return refusal
    prices = state.prices_with(len(holes), given[2], given[3])
    price = price_of(prices, state.maze_with(len(holes)).place(car, holes))
    return [NOT_DONE] if price < 0 else [0, price]


def call_spread(state, given):
    survey = Survey(state, given[0], given[1], given[2])
    if survey.refusal:
        return survey.refusal
    listed = [price for place, price in survey.priced]
    # Those without a price, -1, are counted first: so each price's count stands one further on.
    counts = [0] * (max(listed) + 2)
    for price in listed:
        counts[price + 1] += 1
    return [0] + counts


def call_hardest(state, given):
    survey = Survey(state, given[0], given[1], given[2])
    if survey.refusal:
        return survey.refusal
    greatest = max([price for place, price in survey.priced])
    if greatest < 0:
        return [NOT_DONE]
    hardest = [place for place, price in survey.priced if price == greatest]
    return [0, greatest] + state.maze_with(given[0]).tell(hardest[0])


def call_stuck(state, given):
    survey = Survey(state, given[0], given[1], given[2])
    if survey.refusal:
        return survey.refusal
    stuck = [place for place, price in survey.priced if price < 0]
    return [0, len(stuck)] + (state.maze_with(given[0]).tell(stuck[0]) if stuck else [])


def call_cell(state, given):
    survey = Survey(state, given[1], given[2], given[3])
    refusal = survey.refusal or refuse_cell(state, given[0])
    if refusal:
        return refusal
    listed = [price for place, price in survey.priced if place[0] == given[0]]
    known = [price for price in listed if price >= 0]
    return [0, len(known), sum(known), min(known, default=0), max(known, default=0), len(listed) - len(known)]


def call_known(state, given):
    refusal = refuse_pallets(state, [given[0]]) or refuse_wish(state, given[1], given[2])
    if refusal:
        return refusal
    priced = priced_places(state, state.holes_now(), given[1], given[2])
    own = dict(priced)[state.place(given[0])]
    known = [(place, price) for place, price in priced if 0 <= price < own or own < 0 <= price]
    if len(known) > MOST_KNOWN:
        return [TOO_MANY]
    told = [0, 0 if own < 0 else 1]
    for place, price in known:
        told.extend(state.maze().tell(place))
        told.extend([price] if own >= 0 else [])
    return told


def call_check(state, given):
    entries = cut_entries(given[4], state.holes_now() + 2)
    return answer_proof(state, given[0], given[1], [given[2], given[3]], entries)


def call_shut(state, given):
    # Told 0 inside and 2 outside, prices rise by more than one just where a shift leads out of the entries' places.
    entries = [place + [0] for place in cut_entries(given[3], state.holes_now() + 1)]
    return answer_proof(state, given[0], 2, [given[1], given[2]], entries)


def answer_proof(state, pallet, limit, wish, entries):
    """Whether the entries prove that the pallet's price for the wish isn't below the limit."""
    refusal = refuse_pallets(state, [pallet]) or refuse_wish(state, wish[0], wish[1])
    if refusal:
        return refusal
    told = prices_told(state.maze(), limit, entries)
    if len(told) < len(entries):
        return [FAULT, len(told)]
    meeting = state.maze().meeting_places(state.goals(wish[0]), wish[1])
    why = why_unproved(state.maze(), limit, told, state.place(pallet), meeting)
    return [0, 0] + why if why else [0, 1]


# For each call's number: how many whole numbers it has, how many rows, whether -8 is told with it, what answers it.
CALLS = {
    0: (0, 1, False, call_load),
    1: (0, 1, False, call_stand),
    2: (0, 0, True, call_told),
    3: (1, 0, False, call_near),
    4: (0, 1, True, call_run),
    5: (0, 3, True, call_fetch),
    6: (0, 3, True, call_go),
    7: (1, 2, True, call_firsts),
    8: (1, 2, True, call_ways),
    9: (1, 3, True, call_weigh),
    10: (0, 2, True, call_all),
    11: (0, 2, True, call_nearest),
    12: (1, 0, True, call_map),
    13: (1, 3, False, call_price),
    14: (1, 2, False, call_spread),
    15: (1, 2, False, call_hardest),
    16: (1, 2, False, call_stuck),
    17: (2, 2, False, call_cell),
    18: (1, 2, True, call_known),
    19: (2, 3, True, call_check),
    20: (1, 3, True, call_shut),
}


def answers(calls):
    """For each call on one new object, in order: how many numbers are answered, and these."""
    state = State()
    told = []
    at = 0
    while at < len(calls):
        number = calls[at]
        given = read_given(calls, at + 1, CALLS[number][0], CALLS[number][1])
        answer = answer_call(state, number, given)
        told.append(len(answer))
        told.extend(answer)
        at += 1 + numbers_taken(given)
    return told


def read_given(calls, begin, number_count, row_count):
    """The call's whole numbers and then its rows, which begin at this place of the list."""
    at = begin + number_count
    given = calls[begin:at]
    while len(given) < number_count + row_count:
        end = at + 1 + calls[at]
        given.append(calls[at + 1:end])
        at = end
    return given


def numbers_taken(given):
    """How many numbers of the list of calls these were; before each row stands how many it has."""
    return sum([1 + len(part) if isinstance(part, list) else 1 for part in given])


def answer_call(state, number, given):
    if state.plan is None and number != 0:
        return [NO_PLAN]
    if CALLS[number][2] and state.standing is None:
        return [NOTHING_STANDS]
    answerer = CALLS[number][3]
    return answerer(state, given)
