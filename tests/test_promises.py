"""Promises 2 and 4 on the prices that price and map tell."""

import random
import unittest

from tests.helper import (SMALL_PLANS, Yard, ask, ask_each, ask_last, fetch, load, map_of, park, price, random_case,
                          random_standing, random_wish, run, some_pallet, stand)

GRID = park("C.... ..... ..... .....")
TREE = park("..C..... .#.#.#.# .#.#.#.#")
TOWER = park("LLC L##", "LLL L#L", "LLL L#L", "LLL LL.")


def prices_told(text, places, goals, free):
    """What price tells of each place, -1 where it has none."""
    told = ask_each([load(text)], [price(place[0], place[1:], goals, free) for place in places])
    return [answer[1] if answer[0] == 0 else -1 for answer in told]


def some_places(dice, yard, hole_count, count):
    places = yard.places(hole_count)
    return dice.sample(places, min(count, len(places)))


def plans_and_holes():
    for text in SMALL_PLANS + (TREE, GRID, TOWER):
        for hole_count in range(1, min(4, Yard(text).size)):
            yield text, Yard(text), hole_count


class PromiseTwo(unittest.TestCase):
    def test_from_a_place_to_the_next(self):
        dice = random.Random(101)
        dear = 0
        for text, yard, hole_count in plans_and_holes():
            goals, free = random_wish(dice, yard, hole_count)
            for place in some_places(dice, yard, hole_count, 6):
                behind = [after for shift, after in yard.leads_in_order(place)]
                told = prices_told(text, [place] + behind, goals, free)
                if told[0] < 0:
                    self.assertEqual(set(told), {-1})
                    continue
                for one in told[1:]:
                    self.assertTrue(0 <= one and abs(one - told[0]) <= 1, (text, place, goals, free))
                if told[0] > 0:
                    dear += 1
                    self.assertIn(told[0] - 1, told[1:])
        self.assertGreater(dear, 50)

    def test_0_just_where_the_wish_is_met(self):
        dice = random.Random(102)
        for text, yard, hole_count in plans_and_holes():
            goals, free = random_wish(dice, yard, hole_count)
            places = some_places(dice, yard, hole_count, 10)
            for place, one in zip(places, prices_told(text, places, goals, free)):
                meets = place[0] in (goals or yard.cabins) and set(free) <= set(place[1:])
                self.assertEqual(one == 0, meets)


class PromiseFour(unittest.TestCase):
    def test_a_hole_more(self):
        dice = random.Random(111)
        for text, yard, hole_count in plans_and_holes():
            if hole_count + 1 < min(4, yard.size):
                goals, free = random_wish(dice, yard, hole_count)
                places = some_places(dice, yard, hole_count, 10)
                more = []
                for place in places:
                    hole = dice.choice([cell for cell in range(yard.size) if cell not in place])
                    more.append(place[:1] + sorted(place[1:] + [hole]))
                before = prices_told(text, places, goals, free)
                for one, other in zip(before, prices_told(text, more, goals, free)):
                    self.assertTrue(one < 0 or 0 <= other <= one, (text, goals, free))

    def test_brought_back(self):
        """From one place to just another as dearly as from that to the first."""
        dice = random.Random(112)
        there = 0
        for text, yard, hole_count in plans_and_holes():
            for turn in range(4):
                one, other = dice.choices(yard.places(hole_count), k=2)
                told = prices_told(text, [one], other[:1], other[1:])
                self.assertEqual(told, prices_told(text, [other], one[:1], one[1:]), (text, one, other))
                there += told[0] > 0
        self.assertGreater(there, 30)

    def test_map_renumbered(self):
        dice = random.Random(113)
        for text in SMALL_PLANS + (TREE, GRID, TOWER):
            numbers, goals, free = random_case(dice, Yard(text))
            pallet = some_pallet(dice, numbers)
            other = dict(zip(range(1, 100), dice.sample(range(1, 100), 99)))
            renumbered = [other.get(one, 0) for one in numbers]
            self.assertEqual(ask_last(load(text), stand(numbers), map_of(pallet)),
                             ask_last(load(text), stand(renumbered), map_of(other[pallet])))

    def test_map_where_the_others_are_mixed(self):
        dice = random.Random(114)
        for text in SMALL_PLANS + (TREE, GRID, TOWER):
            numbers, goals, free = random_case(dice, Yard(text))
            pallet = some_pallet(dice, numbers)
            others = [one for one in numbers if one not in (0, pallet)]
            dice.shuffle(others)
            mixed = [one if one in (0, pallet) else others.pop() for one in numbers]
            self.assertEqual(ask_last(load(text), stand(numbers), map_of(pallet)),
                             ask_last(load(text), stand(mixed), map_of(pallet)))

    def test_map_with_a_hole_more(self):
        dice = random.Random(115)
        for text in SMALL_PLANS[1:] + (TREE, GRID, TOWER):
            yard = Yard(text)
            for turn in range(4):
                numbers = random_standing(dice, yard.size, dice.randint(1, min(2, yard.size - 2)))
                pallet, gone = dice.sample([one for one in numbers if one], 2)
                before = ask_last(load(text), stand(numbers), map_of(pallet))
                after = ask_last(load(text), stand([0 if one == gone else one for one in numbers]), map_of(pallet))
                self.assertGreaterEqual(after[1], before[1])
                for one, other in zip(before[2:], after[2:]):
                    self.assertTrue(one < 0 or 0 <= other <= one, (text, numbers, pallet, gone))

    def test_map_brought_there_and_back(self):
        dice = random.Random(116)
        for text in SMALL_PLANS + (TREE, GRID, TOWER):
            numbers, goals, free = random_case(dice, Yard(text))
            pallet = some_pallet(dice, numbers)
            holes = [cell for cell, one in enumerate(numbers) if one == 0]
            start = [load(text), stand(numbers)]
            reached = ask_last(*start, map_of(pallet))[2:]
            for cell in [cell for cell, one in enumerate(reached) if one >= 0][:6]:
                row = ask_last(*start, fetch([pallet], [cell]))[2:]
                answers = ask(*start, run(row), fetch([pallet], [numbers.index(pallet)], holes), map_of(pallet))[2:]
                self.assertEqual(answers[0], [0, reached[cell]])
                self.assertEqual(answers[1][:2], [0, reached[cell]])
                self.assertLessEqual(answers[2][2 + numbers.index(pallet)], reached[cell])


if __name__ == "__main__":
    unittest.main()
