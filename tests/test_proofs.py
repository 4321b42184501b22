"""known, check and shut; promise 3."""

import itertools
import random
import unittest

from tests.helper import (GREATEST, SMALL_PLANS, Yard, ask, ask_last, check, known, load, park, random_case,
                          shut, some_pallet, stand, told)

PAIR = park("C.")
LINE = park("C..")
FOUR = park("C...")
SQUARE = park("C. ..")
GRID = park("C.... ..... ..... .....")
# A way of 20 cells without a branch: along it stand the cells 0 to 8, 16 to 9, 17 to 19.
SNAKE = park("C....... #######. ........ .####### ..######")
# One of 17: along it stand the cells 0 to 8, 16 to 9.
SHORT_SNAKE = park("C....... #######. ........")


def numbers_at(yard, place, car=1):
    """A standing in which this pallet has this place."""
    others = iter([pallet for pallet in range(1, 100) if pallet != car])
    return [0 if cell in place[1:] else car if cell == place[0] else next(others) for cell in range(yard.size)]


def priced_below(yard, hole_count, goals, free, limit):
    """Each place whose price is less, as its numbers and that price, in order."""
    listed = zip(yard.places(hole_count), yard.listed_prices(hole_count, goals, free))
    return [place + [one] for place, one in listed if 0 <= one < limit]


def joined(rows):
    return [number for row in rows for number in row]


class Known(unittest.TestCase):
    def check(self, text, numbers, asked, answer):
        self.assertEqual(ask(load(text), stand(numbers), known(*asked), told())[2:], [answer, [0] + numbers])

    def test_price_0(self):
        self.check(LINE, [1, 2, 0], (1,), [0, 1])
        self.check(LINE, [1, 2, 0], (2, [1]), [0, 1])

    def test_a_greater_price(self):
        self.check(LINE, [0, 1, 2], (1,), [0, 1, 0, 1, 0, 0, 2, 0])
        self.check(LINE, [1, 0, 2], (1, [1]), [0, 1, 1, 0, 0, 1, 2, 0])
        self.check(LINE, [0, 0, 1], (1,), [0, 1, 0, 1, 2, 0, 1, 0, 2, 1])
        self.check(PAIR, [0, 5], (5,), [0, 1, 0, 1, 0])
        self.check(SQUARE, [1, 2, 3, 0], (2,), [0, 1, 0, 1, 0, 0, 2, 0, 0, 3, 0, 1, 0, 1, 1, 2, 2, 2, 0, 1, 2, 1, 2])

    def test_no_price(self):
        self.check(LINE, [1, 2, 0], (2,), [0, 0, 0, 1, 0, 2, 1, 0])
        self.check(LINE, [1, 2, 0], (1, [2]), [0, 0, 1, 2, 2, 0, 2, 1])
        self.check(FOUR, [1, 2, 0, 0], (1, [3]), [0, 0, 1, 2, 3, 2, 0, 3, 2, 1, 3, 3, 0, 1, 3, 0, 2, 3, 1, 2])

    def test_no_place_has_one(self):
        self.check(LINE, [1, 2, 0], (1, [0], [0]), [0, 0])

    def test_cells_wanted_empty(self):
        self.check(LINE, [1, 2, 0], (1, [], [1]), [0, 1, 0, 1, 0])
        self.check(LINE, [0, 1, 2], (1, [], [2]), [0, 1, 0, 1, 1, 0, 2, 0])

    def test_refusals(self):
        for pallet in (0, 3, 99, 100, GREATEST):
            self.check(LINE, [1, 2, 0], (pallet,), [-3])
            self.check(LINE, [1, 2, 0], (pallet, [3], [3]), [-3])
        for wish in (([3],), ([0, GREATEST],), ([1, 1],), ([], [3]), ([], [GREATEST]), ([], [1, 1]), ([], [0, 1])):
            self.check(LINE, [1, 2, 0], (1, *wish), [-4])
            self.check(LINE, [1, 2, 0], (2, *wish), [-4])
        self.assertEqual(ask(load(LINE), known(1), known(0, [9], [9]))[1:], [[-8], [-8]])

    def test_against_a_search(self):
        dice = random.Random(81)
        seen = {"0": 0, "more": 0, "none": 0}
        for text in SMALL_PLANS:
            yard = Yard(text)
            for turn in range(30):
                numbers, goals, free = random_case(dice, yard)
                pallet = some_pallet(dice, numbers)
                price = yard.fewest(numbers, [pallet], goals, free)
                seen["none" if price is None else "more" if price else "0"] += 1
                if price is None:
                    rows = [entry[:-1] for entry in priced_below(yard, numbers.count(0), goals, free, 10 ** 9)]
                else:
                    rows = priced_below(yard, numbers.count(0), goals, free, price)
                self.check(text, numbers, (pallet, goals, free), [0, int(price is not None)] + joined(rows))
        self.assertGreater(min(seen.values()), 20)

    def at_price(self, text, goals, free, hole_count, price, count):
        """Known at the first place with this price, below which there are so many places."""
        yard = Yard(text)
        rows = priced_below(yard, hole_count, goals, free, price)
        self.assertEqual(len(rows), count)
        listed = yard.listed_prices(hole_count, goals, free)
        numbers = numbers_at(yard, yard.places(hole_count)[listed.index(price)])
        self.check(text, numbers, (1, goals, free), [0, 1] + joined(rows) if count <= 200 else [-7])

    def test_200_places_with_a_lesser_price(self):
        self.at_price(park("C..... .#..#."), [2, 4], [2], 2, 12, 200)
        self.at_price(park("C.#.. #.... ....#"), [], [6], 3, 3, 200)

    def test_201_places_with_a_lesser_price(self):
        self.at_price(park("C..#.. #....."), [6, 5], [], 2, 7, 201)
        self.at_price(park("C...# ....#"), [], [], 3, 6, 201)

    def test_more_places_do_not_matter_where_the_price_is_0(self):
        self.check(GRID, [1, 0, 0, 0] + list(range(2, 18)), (1,), [0, 1])
        self.check(GRID, [0, 1, 0, 0] + list(range(2, 18)), (1,), [-7])

    def test_200_places_that_have_a_price(self):
        """On a way without a branch a pallet is brought to two cells by one hole: each of these has it for 20 holes."""
        goals = [1, 3, 5, 7, 16]
        listed = Yard(SNAKE).listed_prices(1, goals, [])
        rows = [place for place, one in zip(Yard(SNAKE).places(1), listed) if one >= 0]
        self.assertEqual(len(rows), 200)
        self.check(SNAKE, list(range(1, 20)) + [0], (18, goals), [0, 0] + joined(rows))
        self.check(SNAKE, list(range(1, 20)) + [0], (2, goals), [0, 1])

    def test_more_than_200_places_that_have_a_price(self):
        """With each row of holes equally many have one, so 201 can't be: the next that can is 204."""
        goals = [1, 3, 5, 7, 16, 14]
        listed = Yard(SHORT_SNAKE).listed_prices(1, goals, [])
        self.assertEqual(len(listed) - listed.count(-1), 204)
        numbers = list(range(1, 18))
        numbers[9] = 0
        self.check(SHORT_SNAKE, numbers, (11, goals), [-7])
        self.check(SHORT_SNAKE, numbers, (99, goals), [-3])
        self.check(SHORT_SNAKE, numbers, (11, [1, 1]), [-4])


class Check(unittest.TestCase):
    def check(self, text, numbers, asked, answer):
        self.assertEqual(Yard(text).judge_check(numbers, *asked), answer)
        self.assertEqual(ask(load(text), stand(numbers), check(*asked), told())[2:], [answer, [0] + numbers])

    def test_proved(self):
        self.check(PAIR, [0, 5], (5, 1, [], [], [0, 1, 0]), [0, 1])
        self.check(LINE, [0, 0, 1], (1, 2, [], [], [0, 1, 2, 0, 1, 0, 2, 1]), [0, 1])
        self.check(LINE, [0, 1, 2], (1, 1, [], [], [0, 1, 0, 0, 2, 0]), [0, 1])

    def test_less_than_the_price_is_proved_too(self):
        self.check(LINE, [0, 0, 1], (1, 1, [], [], [0, 1, 2, 0]), [0, 1])
        self.check(SQUARE, [1, 2, 3, 0], (2, 1, [], [], [0, 1, 0, 0, 2, 0, 0, 3, 0]), [0, 1])

    def test_entries_in_any_order(self):
        self.check(LINE, [0, 0, 1], (1, 2, [], [], [1, 0, 2, 1, 0, 1, 2, 0]), [0, 1])
        self.check(LINE, [0, 1, 2], (1, 1, [], [], [0, 2, 0, 0, 1, 0]), [0, 1])

    def test_no_price_is_proved_for_any_number(self):
        for limit in (2, 3, 1000, GREATEST):
            self.check(LINE, [1, 2, 0], (2, limit, [], [], [0, 1, 0, 0, 2, 0, 1, 0, 1]), [0, 1])
        self.check(LINE, [1, 2, 0], (1, GREATEST, [0], [0], []), [0, 1])

    def test_told_less_than_the_price_proves_too(self):
        self.check(LINE, [1, 2, 0], (2, GREATEST, [], [], [0, 1, 0, 0, 2, 0, 1, 0, 0]), [0, 1])

    def test_0_shifts(self):
        for pallet in (1, 2):
            self.check(LINE, [1, 2, 0], (pallet, 0, [], [], []), [0, 1])
            self.check(LINE, [1, 2, 0], (pallet, 0, [], [], [0, 1, 0]), [-6, 0])
            self.check(LINE, [1, 2, 0], (pallet, 0, [], [], [0]), [-6, 0])

    def test_no_entries(self):
        self.check(LINE, [1, 2, 0], (2, 1, [], [], []), [0, 0, 2, 0, 1])
        self.check(LINE, [1, 2, 0], (1, 1, [], [], []), [0, 0, 2, 0, 1])
        self.check(LINE, [1, 2, 0], (1, 1, [0], [0], []), [0, 1])

    def test_the_pallets_place_has_an_entry(self):
        self.check(LINE, [1, 2, 0], (1, 1, [], [], [0, 1, 0, 0, 2, 0]), [0, 0, 1])
        self.check(LINE, [0, 1, 2], (1, 2, [], [], [0, 1, 0, 0, 2, 0, 1, 0, 1]), [0, 0, 1])
        self.check(LINE, [0, 1, 2], (1, 2, [], [], [1, 0, 1]), [0, 0, 1])
        self.check(LINE, [0, 1, 2], (1, 9, [], [], [0, 1, 5, 1, 0, 0]), [0, 0, 1])

    def test_a_place_that_meets_the_wish_is_not_told_0(self):
        self.check(LINE, [0, 1, 2], (1, 1, [], [], [0, 1, 0]), [0, 0, 2, 0, 2])
        self.check(LINE, [0, 1, 2], (1, 1, [], [], [0, 2, 0]), [0, 0, 2, 0, 1])
        self.check(LINE, [0, 1, 2], (1, 3, [], [], [0, 2, 1, 0, 1, 0]), [0, 0, 2, 0, 2])
        self.check(FOUR, [0, 1, 2, 0], (1, 2, [1, 3], [0, 2], [3, 0, 2, 0]), [0, 0, 2, 1, 0, 2])
        self.check(FOUR, [0, 1, 2, 0], (1, 2, [3, 1], [2, 0], [1, 0, 2, 0]), [0, 0, 2, 3, 0, 2])

    def test_the_first_such_place_is_by_the_order_of_places(self):
        self.check(SQUARE, [0, 1, 2, 3], (3, 5, [2, 1], [], [2, 0, 0, 1, 3, 0, 1, 0, 0]), [0, 0, 2, 1, 2])
        self.check(SQUARE, [0, 1, 2, 3], (3, 5, [2, 1], [], [1, 3, 0, 1, 2, 0, 1, 0, 0]), [0, 0, 2, 2, 0])
        self.check(SQUARE, [0, 1, 2, 3], (1, 5, [2, 1], [], [1, 2, 0, 2, 1, 3]), [0, 0, 2, 1, 0])

    def test_a_shift_leads_to_one_that_is_told_too_much(self):
        self.check(PAIR, [0, 5], (5, 2, [], [], [0, 1, 0]), [0, 0, 3, 0, 0, 1])
        self.check(LINE, [0, 0, 1], (1, 3, [], [], [0, 1, 2, 0, 1, 0, 2, 1]), [0, 0, 3, 1, 1, 2])
        self.check(LINE, [0, 0, 1], (1, 3, [], [], [1, 0, 2, 1, 0, 1, 2, 0]), [0, 0, 3, 0, 1, 2])
        self.check(LINE, [0, 0, 1], (1, 3, [], [], [1, 0, 2, 2, 0, 1, 2, 0]), [0, 0, 3, 1, 0, 1])

    def test_one_more_is_not_too_much(self):
        self.check(LINE, [0, 0, 1], (1, 2, [], [], [1, 0, 2, 1, 0, 1, 2, 0]), [0, 1])
        self.check(LINE, [0, 0, 1], (1, 1, [], [], [0, 1, 2, 0]), [0, 1])

    def test_the_first_such_shift(self):
        plan = park(".C. ... .C.")
        numbers = numbers_at(Yard(plan), [0, 8])
        self.check(plan, numbers, (1, 5, [4], [8], [4, 8, 0, 5, 4, 0, 3, 4, 2]), [0, 0, 3, 0, 5, 8])
        self.check(plan, numbers, (1, 5, [4], [8], [5, 4, 0, 3, 4, 2, 4, 8, 0]), [0, 0, 3, 0, 1, 4])
        self.check(plan, numbers, (1, 5, [4], [8], [3, 4, 4, 5, 4, 0, 4, 8, 0]), [0, 0, 3, 1, 1, 4])

    def test_the_first_reason(self):
        self.check(LINE, [0, 1, 2], (1, 9, [], [], [1, 0, 0]), [0, 0, 1])
        self.check(LINE, [0, 1, 2], (1, 9, [], [], [2, 0, 0, 0, 1, 0]), [0, 0, 2, 0, 2])
        self.check(LINE, [0, 1, 2], (1, 9, [], [], [2, 0, 0, 0, 1, 0, 0, 2, 0]), [0, 0, 3, 0, 1, 0])

    def test_cut_short(self):
        answers = ([0, 0, 2, 0, 1, 2], [-6, 0], [-6, 0], [-6, 0], [0, 0, 3, 0, 0, 1], [-6, 1], [-6, 1], [-6, 1], [0, 1])
        for length, answer in enumerate(answers):
            self.check(LINE, [0, 0, 1], (1, 2, [], [], [0, 1, 2, 0, 1, 0, 2, 1][:length]), answer)

    def test_no_place(self):
        for place in ([0, 0, 1], [1, 0, 1], [0, 2, 1], [0, 1, 1], [4, 0, 1], [0, 1, 4], [GREATEST, 1, 2],
                      [0, 1, GREATEST], [GREATEST, GREATEST, GREATEST], [0, GREATEST, 1]):
            self.check(FOUR, [0, 1, 0, 2], (1, 5, [], [], place + [1]), [-6, 0])
            self.check(FOUR, [0, 1, 0, 2], (1, 5, [], [], [0, 1, 2, 0, 0, 1, 3, 0] + place + [0]), [-6, 2])

    def test_holes_as_many_as_there_are_now(self):
        self.check(FOUR, [0, 1, 3, 2], (1, 5, [], [], [0, 1, 2, 0]), [-6, 1])
        self.check(FOUR, [0, 1, 3, 2], (1, 5, [], [], [0, 1, 2, 0, 3, 0]), [0, 0, 2, 0, 1])
        self.check(FOUR, [0, 1, 0, 2], (1, 5, [], [], [0, 1, 2, 0, 3, 0]), [-6, 1])
        self.check(FOUR, [0, 1, 0, 0], (1, 5, [], [], [0, 1, 2, 3]), [-6, 0])
        self.check(FOUR, [0, 1, 0, 0], (1, 5, [], [], [0, 1, 2, 3, 0]), [0, 0, 3, 0, 0, 1])

    def test_a_price_that_is_not_below_the_number(self):
        self.check(LINE, [0, 1, 2], (1, 1, [], [], [0, 1, 1]), [-6, 0])
        self.check(LINE, [0, 1, 2], (1, 1, [], [], [0, 1, 0, 0, 2, 1]), [-6, 1])
        self.check(LINE, [0, 1, 2], (1, 2, [], [], [0, 1, 0, 0, 2, 1]), [0, 0, 2, 0, 2])
        self.check(LINE, [0, 1, 2], (1, GREATEST, [], [], [0, 1, GREATEST]), [-6, 0])
        self.check(LINE, [0, 1, 2], (1, GREATEST, [], [], [0, 1, GREATEST - 1]), [0, 0, 2, 0, 1])

    def test_a_place_told_before(self):
        self.check(LINE, [0, 1, 2], (1, 1, [], [], [0, 1, 0, 0, 1, 0]), [-6, 1])
        self.check(LINE, [0, 1, 2], (1, 5, [], [], [0, 1, 0, 0, 2, 0, 0, 1, 3]), [-6, 2])
        self.check(LINE, [0, 1, 2], (1, 5, [], [], [1, 0, 0, 1, 0, 0]), [-6, 1])

    def test_the_first_that_is_none(self):
        for last in ([0, 1, 0], [0, 0, 0], [2, 1, 5], [2], [9, 9, 9]):
            self.check(LINE, [0, 1, 2], (1, 5, [], [], [0, 1, 0, 0, 3, 0] + last), [-6, 1])
            self.check(LINE, [0, 1, 2], (1, 5, [], [], [0, 1, 0, 0, 2, 0] + last), [-6, 2])

    def test_entries_are_refused_before_anything_is_proved_or_not(self):
        self.check(LINE, [0, 1, 2], (1, 5, [], [], [1, 0, 0, 0, 1]), [-6, 1])

    def test_the_order_of_refusals(self):
        start = [load(LINE), stand([0, 1, 2])]
        for row in ([], [0], [0, 1, 9], [0, 1, 0], [3, 3, 3]):
            for pallet in (0, 3, 100, GREATEST):
                for wish in (([], []), ([3], []), ([], [1, 1])):
                    self.assertEqual(ask_last(*start, check(pallet, 1, *wish, row)), [-3])
                    self.assertEqual(ask_last(load(LINE), check(pallet, 1, *wish, row)), [-8])
            for wish in (([3], []), ([0, GREATEST], []), ([1, 1], []), ([], [3]), ([], [GREATEST]), ([], [1, 1]),
                         ([], [0, 1])):
                for limit in (0, 1, GREATEST):
                    self.assertEqual(ask_last(*start, check(1, limit, *wish, row)), [-4])
                    self.assertEqual(ask_last(load(LINE), check(1, limit, *wish, row)), [-8])


class Shut(unittest.TestCase):
    def check(self, text, numbers, asked, answer):
        self.assertEqual(Yard(text).judge_shut(numbers, *asked), answer)
        self.assertEqual(ask(load(text), stand(numbers), shut(*asked), told())[2:], [answer, [0] + numbers])

    def test_proved(self):
        self.check(LINE, [1, 2, 0], (2, [], [], [0, 1, 0, 2, 1, 0]), [0, 1])
        self.check(LINE, [1, 2, 0], (2, [], [], [1, 0, 0, 2, 0, 1]), [0, 1])
        self.check(LINE, [1, 2, 0], (2, [0], [0], []), [0, 1])

    def test_more_than_what_has_a_price_may_be_told(self):
        first_pallet = [0, 1, 0, 2, 0, 3, 1, 0]
        second_pallet = [1, 2, 1, 3, 2, 0, 2, 1]
        self.check(FOUR, [1, 2, 3, 0], (3, [], [], first_pallet), [0, 1])
        self.check(FOUR, [1, 2, 3, 0], (3, [], [], second_pallet + first_pallet), [0, 1])
        self.check(FOUR, [1, 2, 3, 0], (3, [], [], second_pallet), [0, 0, 2, 0, 1])
        self.check(FOUR, [1, 2, 3, 0], (2, [], [], first_pallet + second_pallet), [0, 0, 1])

    def test_no_entries(self):
        self.check(LINE, [1, 2, 0], (2, [], [], []), [0, 0, 2, 0, 1])
        self.check(LINE, [1, 2, 0], (1, [], [], []), [0, 0, 2, 0, 1])

    def test_the_pallets_place_has_an_entry(self):
        self.check(LINE, [1, 2, 0], (1, [], [], [0, 1, 0, 2, 1, 0]), [0, 0, 1])
        self.check(LINE, [1, 2, 0], (2, [], [], [1, 2]), [0, 0, 1])

    def test_a_place_that_meets_the_wish_without_an_entry(self):
        self.check(LINE, [1, 2, 0], (2, [], [], [0, 1, 1, 0]), [0, 0, 2, 0, 2])
        self.check(LINE, [1, 2, 0], (2, [], [], [0, 2, 1, 0]), [0, 0, 2, 0, 1])
        self.check(FOUR, [1, 2, 0, 0], (1, [3, 2], [1], [2, 1, 3]), [0, 0, 2, 2, 0, 1])
        self.check(FOUR, [1, 2, 0, 0], (1, [3, 2], [1], [2, 1, 3, 2, 0, 1]), [0, 0, 2, 3, 0, 1])

    def test_a_shift_leads_to_one_without(self):
        self.check(PAIR, [0, 5], (5, [], [], [0, 1]), [0, 0, 3, 0, 0, 1])
        self.check(LINE, [1, 2, 0], (2, [], [], [0, 1, 0, 2]), [0, 0, 3, 0, 0, 1])
        self.check(LINE, [1, 2, 0], (2, [], [], [0, 2, 0, 1]), [0, 0, 3, 1, 0, 1])
        self.check(LINE, [1, 2, 0], (2, [], [], [0, 1, 0, 2, 1, 0, 2, 1]), [0, 0, 3, 3, 0, 1])
        self.check(LINE, [1, 2, 0], (2, [], [], [2, 0, 0, 1, 0, 2, 1, 0]), [0, 0, 3, 0, 1, 0])

    def test_the_first_reason(self):
        self.check(LINE, [1, 2, 0], (2, [], [], [2, 1, 1, 2]), [0, 0, 1])
        self.check(LINE, [1, 2, 0], (2, [], [], [2, 1]), [0, 0, 2, 0, 1])

    def test_entries_that_are_none(self):
        for row, number in (([0], 0), ([0, 1, 0], 1), ([0, 1, 0, 2, 1], 2), ([0, 0], 0), ([0, 3], 0), ([3, 0], 0),
                            ([0, 1, GREATEST, 0], 1), ([0, GREATEST], 0), ([0, 1, 0, 1], 1), ([0, 1, 2, 0, 0, 1], 2),
                            ([0, 1, 0, 0, 0, 1, 5], 1), ([1, 2, 5], 1)):
            self.check(LINE, [1, 2, 0], (2, [], [], row), [-6, number])

    def test_entries_that_are_none_with_more_holes(self):
        for row, number in (([0, 1], 0), ([0, 2, 1], 0), ([0, 1, 1], 0), ([1, 0, 1], 0), ([0, 1, 2, 0], 1),
                            ([0, 1, 2, 0, 1], 1), ([0, 1, 2, 0, 1, 4], 1), ([0, 1, 2, 0, 1, 3, 0, 1, 2], 2),
                            ([4, 1, 2], 0), ([0, 1, GREATEST], 0)):
            self.check(FOUR, [1, 2, 0, 0], (2, [], [], row), [-6, number])
        self.check(FOUR, [1, 0, 0, 0], (1, [3], [], [0, 1, 2]), [-6, 0])
        self.check(FOUR, [1, 0, 0, 0], (1, [3], [], [1, 0, 2, 3, 3, 2, 1, 0]), [-6, 1])

    def test_the_order_of_refusals(self):
        start = [load(LINE), stand([0, 1, 2])]
        for row in ([], [0], [0, 1, 9], [0, 1], [3, 3]):
            for pallet in (0, 3, 100, GREATEST):
                for wish in (([], []), ([3], []), ([], [1, 1])):
                    self.assertEqual(ask_last(*start, shut(pallet, *wish, row)), [-3])
                    self.assertEqual(ask_last(load(LINE), shut(pallet, *wish, row)), [-8])
            for wish in (([3], []), ([0, GREATEST], []), ([1, 1], []), ([], [3]), ([], [GREATEST]), ([], [1, 1]),
                         ([], [0, 1])):
                self.assertEqual(ask_last(*start, shut(1, *wish, row)), [-4])
                self.assertEqual(ask_last(load(LINE), shut(1, *wish, row)), [-8])


class Judged(unittest.TestCase):
    """check and shut beside a judge that goes by the words alone, on rows that are nearly proofs."""

    def spoil(self, dice, entries, places, limit):
        """Some of what may be wrong with a proof."""
        entries = [list(entry) for entry in entries]
        for turn in range(dice.randint(0, 2)):
            way = dice.randrange(5)
            at = dice.randrange(len(entries)) if entries else 0
            if way == 0 and entries:
                entries.pop(at)
            elif way == 1 and entries:
                entries[at][-1] = dice.randint(0, limit)
            elif way == 2:
                entries.insert(at, dice.choice(places) + [dice.randint(0, limit)])
            elif way == 3 and entries:
                entries[at][dice.randrange(len(entries[at]))] = dice.choice([0, 1, 2, 3, 99])
            elif way == 4:
                dice.shuffle(entries)
        return entries

    def test_nearly_proofs(self):
        dice = random.Random(91)
        seen = {}
        for text in SMALL_PLANS[1:]:
            yard = Yard(text)
            for turn in range(60):
                numbers, goals, free = random_case(dice, yard)
                pallet = some_pallet(dice, numbers)
                price = yard.fewest(numbers, [pallet], goals, free)
                limit = dice.choice([1, 2, 5]) if price is None else max(0, price + dice.choice([-1, 0, 0, 1]))
                entries = priced_below(yard, numbers.count(0), goals, free, limit)
                entries = self.spoil(dice, entries, yard.places(numbers.count(0)), limit)
                row = joined(entries)[:dice.choice([-1, 1000, 1000, 1000])]
                answer = yard.judge_check(numbers, pallet, limit, goals, free, row)
                asked = check(pallet, limit, goals, free, row)
                self.assertEqual(ask_last(load(text), stand(numbers), asked), answer, (text, numbers, asked))
                if answer == [0, 1]:
                    self.assertTrue(price is None or price >= limit)
                seen[tuple(answer[:3]) if answer[0] == 0 else -6] = True
        self.assertEqual(len(seen), 5)

    def test_nearly_shut(self):
        dice = random.Random(92)
        seen = {}
        for text in SMALL_PLANS[1:]:
            yard = Yard(text)
            for turn in range(60):
                numbers, goals, free = random_case(dice, yard)
                pallet = some_pallet(dice, numbers)
                entries = priced_below(yard, numbers.count(0), goals, free, 10 ** 9)
                entries = self.spoil(dice, entries, yard.places(numbers.count(0)), 1)
                row = joined([entry[:-1] for entry in entries])[:dice.choice([-1, 1000, 1000, 1000])]
                answer = yard.judge_shut(numbers, pallet, goals, free, row)
                asked = shut(pallet, goals, free, row)
                self.assertEqual(ask_last(load(text), stand(numbers), asked), answer, (text, numbers, asked))
                if answer == [0, 1]:
                    self.assertIsNone(yard.fewest(numbers, [pallet], goals, free))
                seen[tuple(answer[:3]) if answer[0] == 0 else -6] = True
        self.assertEqual(len(seen), 5)


class PromiseThree(unittest.TestCase):
    """Whatever check takes is proved; what known hands over is taken."""

    def taken(self, text, numbers, pallet, goals, free, price):
        """Whether what known hands over is taken; None if it hands over nothing."""
        start = [load(text), stand(numbers)]
        handed = ask_last(*start, known(pallet, goals, free))
        if handed == [-7]:
            return None
        if price < 0:
            self.assertEqual(handed[:2], [0, 0])
            return ask_last(*start, shut(pallet, goals, free, handed[2:])) == [0, 1]
        self.assertEqual(handed[:2], [0, 1])
        return ask_last(*start, check(pallet, price, goals, free, handed[2:])) == [0, 1]

    def test_what_known_hands_over_is_taken(self):
        dice = random.Random(93)
        seen = {}
        for text in SMALL_PLANS + (GRID, SNAKE, SHORT_SNAKE):
            yard = Yard(text)
            for turn in range(12):
                numbers, goals, free = random_case(dice, yard)
                prices = yard.prices(numbers.count(0), goals, free)
                for pallet in dice.sample([one for one in numbers if one], 1):
                    price = prices.get(yard.place(numbers, pallet), -1)
                    answer = self.taken(text, numbers, pallet, goals, free, price)
                    self.assertIn(answer, (True, None))
                    seen[answer, (price > 0) - (price < 0)] = True
        self.assertIn((True, 1), seen)
        self.assertIn((True, 0), seen)
        self.assertIn((True, -1), seen)

    def test_200_entries_of_3_holes(self):
        """A thousand numbers, as many as a row may have."""
        text = park("C.#.. #.... ....#")
        yard = Yard(text)
        listed = yard.listed_prices(3, [], [6])
        numbers = numbers_at(yard, yard.places(3)[listed.index(3)])
        start = [load(text), stand(numbers)]
        handed = ask_last(*start, known(1, [], [6]))
        self.assertEqual(len(handed), 1002)
        self.assertEqual(ask_last(*start, check(1, 3, [], [6], handed[2:])), [0, 1])
        self.assertEqual(ask_last(*start, check(1, 4, [], [6], handed[2:]))[:3], [0, 0, 3])
        self.assertEqual(ask_last(*start, check(1, 2, [], [6], handed[2:]))[0], -6)

    def test_one_more_than_the_price_is_not_taken(self):
        dice = random.Random(94)
        tried = 0
        for text in SMALL_PLANS:
            yard = Yard(text)
            for turn in range(12):
                numbers, goals, free = random_case(dice, yard)
                pallet = some_pallet(dice, numbers)
                price = yard.fewest(numbers, [pallet], goals, free)
                if price:
                    tried += 1
                    start = [load(text), stand(numbers)]
                    handed = ask_last(*start, known(pallet, goals, free))
                    answer = ask_last(*start, check(pallet, price + 1, goals, free, handed[2:]))
                    self.assertEqual(answer[:3], [0, 0, 3])
        self.assertGreater(tried, 20)

    def all_rows(self, places, limit):
        """Every choice of entries: each place without one or with a price below the limit."""
        for told_prices in itertools.product(range(limit + 1), repeat=len(places)):
            yield [place + [one] for place, one in zip(places, told_prices) if one < limit]

    def test_whatever_check_takes_is_proved(self):
        """Each choice of entries on small plans, for each pallet, against a search over whole standings."""
        taken = 0
        for text, numbers, goals in ((PAIR, [0, 5], []), (LINE, [0, 5, 0], []), (LINE, [0, 0, 5], []),
                                     (LINE, [4, 0, 5], []), (LINE, [4, 0, 5], [1]), (park("L", "C"), [3, 0], [])):
            yard = Yard(text)
            places = yard.places(numbers.count(0))
            for pallet in [one for one in numbers if one]:
                price = yard.fewest(numbers, [pallet], goals, [])
                for limit in range(1, 4 if len(places) < 4 else 3):
                    rows = list(self.all_rows(places, limit))
                    for at in range(0, len(rows), 24):
                        calls = [check(pallet, limit, goals, [], joined(row)) for row in rows[at:at + 24]]
                        proved = [0, 1] in ask(load(text), stand(numbers), *calls)[2:]
                        taken += proved
                        self.assertFalse(proved and price is not None and price < limit)
        self.assertGreater(taken, 5)

    def test_whatever_shut_takes_is_proved(self):
        """Each choice of places with one hole in a row of three cells."""
        yard = Yard(LINE)
        places = yard.places(1)
        rows = [row for count in range(7) for row in itertools.combinations(places, count)]
        for numbers, goals, free in itertools.product(([4, 5, 0], [0, 4, 5], [4, 0, 5]), ([], [1], [2]), ([], [1])):
            for pallet in (4, 5):
                price = yard.fewest(numbers, [pallet], goals, free)
                takes = []
                for at in range(0, len(rows), 24):
                    calls = [shut(pallet, goals, free, joined(row)) for row in rows[at:at + 24]]
                    takes += ask(load(LINE), stand(numbers), *calls)[2:]
                self.assertEqual([0, 1] in takes, price is None)


if __name__ == "__main__":
    unittest.main()
