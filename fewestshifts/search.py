"""What the calls search for, or the refusal that is due before it."""

from fewestshifts.least import least_price
from fewestshifts.maze import price_of
from fewestshifts.refusals import NOT_DONE, refuse_hole_count, refuse_pallets, refuse_wish, refuse_wish_with


class Search:
    """The places of some pallets and the prices for a wish, or the refusal that is due."""

    def __init__(self, state, pallets, goals, wanted):
        self.places = []
        self.prices = []
        self.refusal = refuse_pallets(state, pallets) or refuse_wish(state, goals, wanted)
        if not self.refusal:
            self.places = [state.place(pallet) for pallet in pallets]
            self.prices = state.prices_for(goals, wanted)
            if least_price(self.prices, self.places) < 0:
                self.refusal = [NOT_DONE]


class Survey:
    """All places with so many holes, in order, each with its price for a wish; or the refusal that is due."""

    def __init__(self, state, hole_count, goals, wanted):
        self.priced = []
        self.refusal = refuse_hole_count(state, hole_count) or refuse_wish_with(state, hole_count, goals, wanted)
        if not self.refusal:
            self.priced = priced_places(state, hole_count, goals, wanted)


def priced_places(state, hole_count, goals, wanted):
    """All places with so many holes, in order, each with its price for the wish, -1 where it has none."""
    prices = state.prices_with(hole_count, goals, wanted)
    return [(place, price_of(prices, place)) for place in state.maze_with(hole_count).all_places()]


def priced_pallets(state, goals, wanted):
    """The pallets that stand, in the order of their cells, each with its price for the wish, -1 where it has none."""
    prices = state.prices_for(goals, wanted)
    return [(pallet, price_of(prices, state.place(pallet))) for pallet in state.standing if pallet != 0]


def numbers_of(pairs):
    numbers = []
    for one, other in pairs:
        numbers.extend([one, other])
    return numbers
