"""The interface, promise 5, and the order of the refusals that all calls share."""

import itertools
import random
import unittest

import fewestshifts.hall
from fewestshifts.hall import answers
from tests.helper import (GREATEST, MODULUS, Yard, ask, ask_last, cell_of, check, fetch, firsts, flat, go, hardest,
                          known, load, map_of, near, nearest, park, price, price_all, random_standing, run, shut,
                          spread, stand, stuck, told, ways, weigh)

LINE = park("C...")
GRID = park("C.... ..... ..... ....C")


def joined(calls):
    return list(itertools.chain(*calls))


class Unchanging(list):
    """A list that fails as soon as somebody changes it."""

    def refuse(self, *given):
        raise AssertionError("the list that was handed in was changed")

    __setitem__ = __delitem__ = __iadd__ = __imul__ = refuse
    append = clear = extend = insert = pop = remove = reverse = sort = refuse


ASKING = (told(), near(0), near(9), fetch([2], [3]), fetch([1, 2], [], [3]), firsts(2, [3]), ways(2, [3]),
          weigh(2, [3], [], [1, 2]), weigh(1, [], [], [1, 2, 2, 3, 0, 1]), price_all(), price_all([2], [0]),
          run([]), nearest(), nearest([2], [0, 1]), map_of(2), price(0, [1]), price(3, [0, 1, 2], [1], [0]), spread(1),
          spread(3, [1], [2]), hardest(1), hardest(2, [3], [0]), stuck(1), stuck(3), cell_of(2, 1), cell_of(0, 3, [2]),
          known(1), known(2), known(2, [3]), check(2, 2, [3], [], [3, 0, 1, 0, 3, 0, 2, 0, 3, 1, 2, 0]),
          check(1, 5, [], [], []), shut(2, [], [], [0, 1, 2]), shut(2, [0], [0], []))
REFUSED = (load(""), load(park("C#.")), load(park("C....") + "x"), stand([]), stand([1, 2, 3, 400]),
           stand([1, 1, 0, 0]), stand([1, 2, 3, 4]), near(4), run([1]), run([1, 2, 4, 3]), run([1, 2, 1, 2]),
           run([1, 2, 0, 1, 0, 0]), fetch([]), fetch([3]), fetch([1], [4]), fetch([2]), go([]), go([0]), go([1, 1]),
           go([1], [4]), go([1], [], [0, 1, 2]), go([2]), go([1], [0], [0]), firsts(3), firsts(1, [0, 0]), firsts(2),
           ways(3), ways(1, [], [4]), ways(2), weigh(3, [], [], []), weigh(1, [4], [], []), weigh(1, [], [], [4, 0]),
           weigh(1, [], [], [1, 2, 1, 2]), price_all([4]), price_all([], [1, 1]), nearest([4]), nearest([0], [0]),
           map_of(0), map_of(3), price(4, [0]), price(0, []), price(0, [1], [4]), price(2, [3]), spread(0),
           spread(4), spread(1, [], [0, 1]), hardest(0), hardest(4, [4]), hardest(1, [4]), hardest(1, [0], [0]),
           stuck(0), stuck(4), stuck(2, [1, 1]), cell_of(4, 1), cell_of(0, 0), cell_of(0, 1, [], [4]), known(3),
           known(1, [4]), check(3, 1, [], [], []), check(1, 1, [4], [], []), check(1, 1, [], [], [0]),
           check(1, 0, [], [], [0, 1, 2, 0]), shut(0, [], [], []), shut(1, [], [4], []), shut(1, [], [], [0, 0, 0]))


def within_bounds(calls):
    """The calls in lists of which each may stand, with a few others, in one list of calls."""
    return [calls[at:at + 20] for at in range(0, len(calls), 20)]


class PromiseFive(unittest.TestCase):
    """What is refused and what only asks changes nothing."""

    start = (load(LINE), stand([1, 2, 0, 0]))
    later = (told(), near(1), fetch([2], [3]), price_all(), go([2], [3]), told())

    def check(self, calls):
        plain = ask(*self.start, *self.later)[2:]
        self.assertEqual(ask(*self.start, *calls, *self.later)[2 + len(calls):], plain)

    def test_each_by_itself(self):
        for call in ASKING + REFUSED:
            self.check([call])

    def test_all_behind_one_another(self):
        for calls in within_bounds(ASKING) + within_bounds(REFUSED):
            self.check(calls)
        for seed in range(4):
            for calls in within_bounds(random.Random(seed).sample(ASKING + REFUSED, len(ASKING + REFUSED))):
                self.check(calls)

    def test_each_answers_the_same_behind_others(self):
        for calls in within_bounds(random.Random(9).sample(ASKING + REFUSED, len(ASKING + REFUSED))):
            self.assertEqual(ask(*self.start, *calls)[2:], [ask_last(*self.start, call) for call in calls])

    def test_they_are_what_they_are_called(self):
        for call in ASKING:
            self.assertEqual(ask_last(*self.start, call)[0], -4 if call == near(9) else 0, call)
        for call in REFUSED:
            self.assertLess(ask_last(*self.start, call)[0], 0, call)

    def test_before_something_stands(self):
        for calls in within_bounds(REFUSED + ASKING):
            self.assertEqual(ask(load(LINE), *calls, near(1), told(), stand([0, 1, 2, 3]), told())[-4:],
                             [[0, 0, 2], [-8], [0], [0, 0, 1, 2, 3]])


class FirstRefusals(unittest.TestCase):
    calls = (stand([1, 2, 0, 0]), stand([]), told(), near(0), near(GREATEST), run([]), run([1]), fetch([1]),
             fetch([], [9], [9]), go([1]), go([], [9, 9]), firsts(1), firsts(0, [9]), ways(1), ways(0, [], [9]),
             weigh(1, [], [], []), weigh(0, [9], [9], [9]), price_all(), price_all([9], [9]), nearest(),
             nearest([9], [9]), map_of(1), map_of(0), price(0, [1]), price(9, [9], [9], [9]), spread(1), spread(0, [9]),
             hardest(1), hardest(9, [9]), stuck(1), stuck(0, [], [9]), cell_of(0, 1), cell_of(9, 0, [9]), known(1),
             known(0, [9]), check(1, 0, [], [], []), check(0, 1, [9], [9], [9]), shut(1, [], [], []),
             shut(0, [9], [9], [9]))
    with_8 = (told(), run([]), run([1]), fetch([1]), fetch([], [9], [9]), go([1]), go([], [9, 9]), firsts(1),
              firsts(0, [9]), ways(1), ways(0, [], [9]), weigh(1, [], [], []), weigh(0, [9], [9], [9]), price_all(),
              price_all([9], [9]), nearest(), nearest([9], [9]), map_of(1), map_of(0), known(1), known(0, [9]),
              check(1, 0, [], [], []), check(0, 1, [9], [9], [9]), shut(1, [], [], []), shut(0, [9], [9], [9]))
    without_8 = ((near(0), [0, 1]), (near(9), [-4]), (price(0, [1]), [0, 0]), (price(9, [9]), [-4]),
                 (price(3, [2]), [-5]), (spread(3), [0, 0, 1, 1, 1, 1]), (spread(9), [-1]), (spread(1, [9]), [-4]),
                 (hardest(3), [0, 3, 3, 0, 1, 2]), (hardest(0, [9]), [-1]), (hardest(3, [9]), [-4]),
                 (hardest(1, [1], [1]), [-5]), (stuck(3), [0, 0]), (stuck(4), [-1]), (stuck(1, [], [0, 1]), [-4]),
                 (cell_of(1, 3), [0, 1, 1, 1, 1, 0]), (cell_of(9, 9), [-1]), (cell_of(9, 3), [-4]))

    def test_no_plan_is_held(self):
        for calls in within_bounds(self.calls):
            self.assertEqual(ask(*calls), [[-9]] * len(calls))
            self.assertEqual(ask(load("park a"), *calls)[1:], [[-9]] * len(calls))

    def test_nothing_stands(self):
        for calls in within_bounds(self.with_8):
            self.assertEqual(ask(load(LINE), *calls)[1:], [[-8]] * len(calls))
            self.assertEqual(ask(load(LINE), stand([1]), *calls)[2:], [[-8]] * len(calls))
            self.assertEqual(ask(load(LINE), stand([1, 2, 0, 0]), load(LINE), *calls)[3:], [[-8]] * len(calls))

    def test_calls_that_ask_nothing_of_what_stands(self):
        answers_told = [answer for call, answer in self.without_8]
        calls = [call for call, answer in self.without_8]
        self.assertEqual(ask(load(LINE), *calls)[1:], answers_told)
        for numbers in ([1, 2, 3, 0], [0, 2, 0, 1], [0, 0, 0, 9]):
            self.assertEqual(ask(load(LINE), stand(numbers), *calls, told())[2:], answers_told + [[0] + numbers])

    def test_nothing_stands_behind_another_load(self):
        calls = [load(LINE), stand([1, 2, 0, 0]), load(LINE), told(), price_all(), go([1]), near(3), stand([0] * 4)]
        self.assertEqual(ask(*calls)[2:], [[0, 4, 1], [-8], [-8], [-8], [0, 2], [-6, 4]])


class OneList(unittest.TestCase):
    def test_by_hand(self):
        text = [112, 97, 114, 107, 32, 97, 10, 102, 108, 111, 111, 114, 10, 67, 46, 46, 10]
        calls = [2, 0, 17] + text + [2, 1, 3, 7, 8, 0, 2, 3, 1, 4, 2, 1, 2, 5, 1, 8, 1, 1, 0, 6, 1, 8, 1, 1, 0, 7, 8,
                                     0, 0, 8, 7, 0, 0, 9, 8, 1, 2, 1, 0, 2, 1, 2, 10, 0, 0, 10, 1, 3, 0]
        asked = [1, -9, 3, 0, 3, 1, 1, -8, 1, 0, 4, 0, 7, 8, 0, 3, 0, 0, 2, 2, 0, 1, 4, 0, 1, 2, 1, 4, 0, 1, 8, 1,
                 1, -5, 2, 0, 1, 4, 0, 0, 2, 1, 6, 0, 1, 7, 0, 8, -1, 1, -4]
        self.assertEqual(answers(calls), asked)

    def test_by_hand_on_three_cells(self):
        text = [112, 97, 114, 107, 32, 97, 10, 102, 108, 111, 111, 114, 10, 67, 46, 46, 10]
        calls = [13, 1, 1, 0, 0, 0, 0, 17] + text
        calls += [13, 1, 1, 0, 0, 0, 14, 1, 0, 0, 15, 1, 0, 0, 16, 1, 0, 0, 17, 1, 1, 0, 0, 11, 0, 0, 12, 7]
        calls += [1, 3, 7, 8, 0, 11, 1, 2, 0, 12, 7, 13, 2, 2, 0, 1, 1, 1, 1, 0, 17, 3, 1, 0, 0, 18, 8, 0, 0]
        calls += [19, 8, 2, 0, 0, 9, 0, 1, 0, 0, 2, 0, 1, 0, 1, 20, 8, 0, 0, 6, 0, 1, 0, 2, 1, 0]
        calls += [19, 7, 1, 0, 0, 0, 20, 7, 0, 0, 2, 0, 1, 20, 7, 0, 0, 1, 0, 2]
        asked = [1, -9, 3, 0, 3, 1, 2, 0, 1, 4, 0, 3, 2, 1, 4, 0, 1, 1, 0, 4, 0, 3, 1, 2, 6, 0, 1, 1, 1, 1, 1]
        asked += [1, -8, 1, -8, 1, 0, 3, 0, 8, 1, 5, 0, 2, 0, 2, -1, 2, 0, 1, 1, -4, 8, 0, 0, 0, 1, 0, 2, 1, 0]
        asked += [2, 0, 1, 2, 0, 1, 5, 0, 0, 2, 0, 1, 5, 0, 0, 2, 0, 2, 2, -6, 0, 4, 0, 7, 8, 0]
        self.assertEqual(answers(calls), asked)

    def test_counts_stand_before_the_answers(self):
        calls = [load(park("C..")), stand([7, 8, 0]), told(), near(1), near(3), run([1]), stand([1]), load("x")]
        self.assertEqual(answers(joined(calls)), [3, 0, 3, 1, 1, 0, 4, 0, 7, 8, 0, 3, 0, 0, 2, 1, -4, 1, -4, 2, -6, 1,
                                                  3, -6, 1, 0])

    def test_one_call(self):
        self.assertEqual(answers([2]), [1, -9])
        self.assertEqual(answers([0, 0]), [3, -6, 1, 0])

    def test_a_refused_call_is_read_to_its_end(self):
        for call in FirstRefusals.calls:
            self.assertEqual(answers(call + [2]), [1, -9, 1, -9])

    def test_whole_numbers_in_a_list(self):
        for part in within_bounds(ASKING + REFUSED):
            numbers = answers(joined((load(LINE), stand([1, 2, 0, 0])) + part))
            self.assertIs(type(numbers), list)
            self.assertEqual({type(number) for number in numbers}, {int})

    def test_the_list_stays_as_it_was(self):
        for part in within_bounds(ASKING + REFUSED):
            calls = joined((load(LINE), stand([1, 2, 0, 0])) + part + (go([2], [3]), run([3, 2]), told()))
            before = list(calls)
            self.assertEqual(answers(Unchanging(calls)), answers(calls))
            self.assertEqual(calls, before)

    def test_what_is_given_back_is_new_each_time(self):
        calls = joined([load(LINE), stand([1, 2, 0, 0]), told(), near(1), price_all()])
        first = answers(calls)
        kept = list(first)
        first.clear()
        self.assertEqual(answers(calls), kept)

    def test_lists_do_not_know_of_each_other(self):
        self.assertEqual(ask(load(LINE), stand([1, 2, 0, 0]), go([2], [3])), [[0, 4, 1], [0], [0, 2, 2, 3]])
        self.assertEqual(ask(told(), near(0), stand([1, 2, 0, 0])), [[-9]] * 3)
        self.assertEqual(ask(load(LINE), told()), [[0, 4, 1], [-8]])
        self.assertEqual(ask(load(LINE), stand([1, 2, 0, 0]), told()), [[0, 4, 1], [0], [0, 1, 2, 0, 0]])

    def test_by_its_full_name(self):
        self.assertEqual(fewestshifts.hall.answers([2, 2]), [1, -9, 1, -9])

    def test_greatest_numbers(self):
        great = [GREATEST]
        calls = [stand(great * 4), near(GREATEST), run(great * 2), fetch(great), fetch([1], great),
                 fetch([1], [], great), go(great), firsts(GREATEST), ways(GREATEST), weigh(GREATEST, [], [], []), weigh(1, [], [], great * 2),
                 price_all(great), price_all([], great)]
        self.assertEqual(ask(load(LINE), stand([1, 2, 0, 0]), *calls)[2:],
                         [[-6, 2], [-4], [-4], [-3], [-4], [-4], [-3], [-3], [-3], [-3], [-4], [-4], [-4]])

    def test_greatest_numbers_in_the_calls_on_places_and_proofs(self):
        great = [GREATEST]
        asked = ((nearest(great), [-4]), (nearest([], great), [-4]), (map_of(GREATEST), [-3]),
                 (price(GREATEST, [0]), [-4]), (price(0, great), [-4]), (price(0, [1], great), [-4]),
                 (price(0, [1], [], great), [-4]), (spread(GREATEST), [-1]), (spread(1, great), [-4]),
                 (hardest(GREATEST, great), [-1]), (stuck(GREATEST), [-1]), (cell_of(GREATEST, 1), [-4]),
                 (cell_of(GREATEST, GREATEST), [-1]), (known(GREATEST), [-3]), (known(1, great), [-4]),
                 (check(GREATEST, 0, [], [], []), [-3]), (check(2, GREATEST, [0], [0], []), [0, 1]),
                 (check(2, GREATEST, [], [], great * 4), [-6, 0]), (check(2, 1, [], great, []), [-4]),
                 (check(2, GREATEST, [], [], [0, 1, 2, GREATEST]), [-6, 0]), (shut(GREATEST, [], [], []), [-3]),
                 (shut(2, great, [], []), [-4]), (shut(2, [], [], great * 3), [-6, 0]))
        self.assertEqual(ask(load(LINE), stand([1, 2, 0, 0]), *[call for call, answer in asked])[2:],
                         [answer for call, answer in asked])

    def test_calls_on_places_with_lists_of_a_thousand_numbers(self):
        long = [0] * 1000
        rows = list(range(1000))
        for call, answer in ((nearest(rows, long), [-4]), (nearest([], rows), [-4]), (price(0, rows), [-4]),
                             (price(0, long, long, long), [-4]), (price(0, [1], rows), [-4]), (spread(1, rows), [-4]),
                             (spread(0, rows, rows), [-1]), (hardest(3, long), [-4]), (stuck(4, rows, long), [-1]),
                             (stuck(1, [], rows), [-4]), (cell_of(0, 1, rows, rows), [-4]), (known(1, long), [-4]),
                             (known(0, rows, rows), [-3]), (check(1, 1, rows, rows, rows), [-4]),
                             (check(3, 1, rows, rows, rows), [-3]), (check(1, 1, [], [], long), [-6, 0]),
                             (check(1, 9, [], [], [0, 1, 2, 0] * 250), [-6, 1]), (shut(2, long, long, long), [-4]),
                             (shut(2, [], [], rows), [-6, 1]), (shut(2, [], [], rows[2:]), [-6, 0])):
            self.assertEqual(ask(load(LINE), stand([1, 2, 0, 0]), call, told())[2:], [answer, [0, 1, 2, 0, 0]])

    def test_as_many_entries_as_fit(self):
        """On 20 cells, with each number of holes: entries right to the last, or one at the end that is none."""
        yard = Yard(GRID)
        dice = random.Random(52)
        for hole_count in (1, 2, 3):
            numbers = random_standing(dice, yard.size, hole_count)
            pallet = dice.choice([one for one in numbers if one])
            places = [place for place in yard.places(hole_count) if place != yard.told_place(numbers, pallet)]
            for length in (hole_count + 1, hole_count + 2):
                count = min(len(places), 1000 // length)
                priced = [place + [dice.randrange(9)] * (length - len(place)) for place in dice.sample(places, count)]
                row = flat(priced)
                for entries in (row, row[:-1], row[:-length] + row[:length], row + [7] * (1000 - len(row))):
                    if length == hole_count + 1:
                        answer = yard.judge_shut(numbers, pallet, [], [], entries)
                        call = shut(pallet, [], [], entries)
                    else:
                        answer = yard.judge_check(numbers, pallet, 9, [], [], entries)
                        call = check(pallet, 9, [], [], entries)
                    self.assertEqual(ask(load(GRID), stand(numbers), call, told())[2:], [answer, [0] + numbers])

    def test_a_long_proof_in_any_order(self):
        """224 places with 3 holes that no shift leads out of."""
        text = park("C.......")
        yard = Yard(text)
        numbers = [1, 2, 3, 4, 5, 0, 0, 0]
        row = [place for place, one in zip(yard.places(3), yard.listed_prices(3, [0, 1, 2, 3], [5, 6, 7])) if one >= 0]
        self.assertEqual(len(row), 224)
        random.Random(53).shuffle(row)
        start = [load(text), stand(numbers)]
        self.assertEqual(ask_last(*start, shut(5, [0, 1, 2, 3], [5, 6, 7], flat(row))), [0, 1])
        self.assertEqual(ask_last(*start, shut(4, [0, 1, 2, 3], [5, 6, 7], flat(row))), [0, 0, 1])
        spoilt = row[:-1]
        number = min(at for at, place in enumerate(spoilt) for shift, after in yard.leads_in_order(place)
                     if after == row[-1])
        answer = ask_last(*start, shut(5, [0, 1, 2, 3], [5, 6, 7], flat(spoilt)))
        meets = row[-1][0] in (0, 1, 2, 3) and row[-1][1:] == [5, 6, 7]
        self.assertEqual(answer[:4], [0, 0, 2, row[-1][0]] if meets else [0, 0, 3, number])

    def test_lists_of_a_thousand_numbers(self):
        long = [0] * 1000
        rows = list(range(1000))
        back_and_forth = [1, 2, 2, 1] * 250
        start = [load(LINE), stand([1, 2, 0, 0])]
        calls = [stand(long), run(back_and_forth), fetch(rows), weigh(2, [1], [], back_and_forth), told()]
        self.assertEqual(ask(*start, *calls)[2:], [[-6, 1], [0, 500], [-3], [0, 0] + [0, 1] * 250 + [0],
                                                   [0, 1, 2, 0, 0]])
        self.assertEqual(ask(*start, go([1], rows, long), weigh(1, rows, long, long), told())[2:],
                         [[-4], [-4], [0, 1, 2, 0, 0]])
        self.assertEqual(ask_last(*start, go(rows, rows, rows)), [-3])


class ManyCalls(unittest.TestCase):
    def test_a_hundred_calls_with_24_that_search(self):
        """On 20 cells with 3 empty ones, each answer against what is found without the package."""
        yard = Yard(GRID)
        dice = random.Random(51)
        wishes = (([], []), ([19], [0, 1, 5]), ([7, 12], [18]), ([4], []))
        prices = [yard.prices(3, *wish) for wish in wishes]
        here = tuple(random_standing(dice, yard.size, 3))
        calls = [load(GRID), stand(list(here))]
        asked = [[0, 20, 2], [0]]
        for turn in range(24):
            which = turn % len(wishes)
            pallet = dice.choice([one for one in here if one])
            call, answer = [self.ways, self.all, self.weigh, self.go][turn // 4 % 4](
                yard, here, pallet, wishes[which], prices[which])
            calls.append(call)
            asked.append(answer)
            if call[0] == 6:
                here = self.end(yard, here, pallet, prices[which])
            shift = dice.choice(yard.shifts(here))
            here = yard.after(here, shift)
            calls += [run(shift), told(), near(turn % 20)]
            asked += [[0, 1], [0] + list(here), [0] + sorted(yard.near[turn % 20])]
        calls += [told(), near(20)]
        asked += [[0] + list(here), [-4]]
        self.assertEqual(len(calls), 100)
        self.assertEqual(ask(*calls), asked)

    def test_a_hundred_calls_with_24_on_places_and_proofs(self):
        """Likewise with the calls nearest to shut."""
        yard = Yard(GRID)
        dice = random.Random(54)
        wishes = (([], []), ([19], [0, 1, 5]), ([7, 12], [18]), ([4], []))
        prices = [yard.prices(3, *wish) for wish in wishes]
        here = tuple(random_standing(dice, yard.size, 3))
        calls = [load(GRID), stand(list(here))]
        asked = [[0, 20, 2], [0]]
        makers = (self.nearest, self.map, self.price, self.spread, self.hardest, self.stuck, self.cell, self.known,
                  self.check_none, self.shut_none, self.check_some, self.shut_some)
        for turn in range(24):
            which = turn // 2 % len(wishes)
            pallet = dice.choice([one for one in here if one])
            call, answer = makers[turn % 12](yard, here, pallet, wishes[which], prices[which])
            shift = dice.choice(yard.shifts(here))
            here = yard.after(here, shift)
            calls += [call, run(shift), told(), near(turn % 20)]
            asked += [answer, [0, 1], [0] + list(here), [0] + sorted(yard.near[turn % 20])]
        calls += [told(), near(20)]
        asked += [[0] + list(here), [-4]]
        self.assertEqual(len(calls), 100)
        self.assertEqual(ask(*calls), asked)

    def nearest(self, yard, here, pallet, wish, prices):
        one, other = min((prices[yard.place(here, one)], one) for one in here if one)
        return nearest(*wish), [0, other, one]

    def map(self, yard, here, pallet, wish, prices):
        car, holes = yard.place(here, pallet)
        reached = yard.prices(3, [car], sorted(holes))
        return map_of(pallet), [0, 20] + [min(one for place, one in reached.items() if place[0] == cell)
                                          for cell in range(20)]

    def price(self, yard, here, pallet, wish, prices):
        place = yard.told_place(here, pallet)
        return price(place[0], place[1:], *wish), [0, prices[yard.place(here, pallet)]]

    def spread(self, yard, here, pallet, wish, prices):
        listed = list(prices.values())
        return spread(3, *wish), [0, 19380 - len(listed)] + [listed.count(one) for one in range(max(listed) + 1)]

    def hardest(self, yard, here, pallet, wish, prices):
        greatest = max(prices.values())
        first = min([place[0]] + sorted(place[1]) for place, one in prices.items() if one == greatest)
        return hardest(3, *wish), [0, greatest] + first

    def stuck(self, yard, here, pallet, wish, prices):
        return stuck(3, *wish), [0, 0]

    def cell(self, yard, here, pallet, wish, prices):
        listed = [one for place, one in prices.items() if place[0] == pallet % 20]
        return cell_of(pallet % 20, 3, *wish), [0, 969, sum(listed), min(listed), max(listed), 0]

    def known(self, yard, here, pallet, wish, prices):
        own = prices[yard.place(here, pallet)]
        less = sorted([place[0], *sorted(place[1]), one] for place, one in prices.items() if one < own)
        return known(pallet, *wish), [0, 1] + flat(less) if len(less) <= 200 else [-7]

    def check_none(self, yard, here, pallet, wish, prices):
        return check(pallet, 0, *wish, []), [0, 1]

    def shut_none(self, yard, here, pallet, wish, prices):
        return shut(pallet, *wish, []), yard.judge_shut(here, pallet, *wish, [])

    def check_some(self, yard, here, pallet, wish, prices):
        row = flat([place[0], *sorted(place[1]), one] for place, one in list(prices.items())[:60] if one < 3)
        return check(pallet, 3, *wish, row), yard.judge_check(here, pallet, 3, *wish, row)

    def shut_some(self, yard, here, pallet, wish, prices):
        row = flat([place[0], *sorted(place[1])] for place in list(prices)[:60])
        return shut(pallet, *wish, row), yard.judge_shut(here, pallet, *wish, row)

    def ways(self, yard, here, pallet, wish, prices):
        return ways(pallet, *wish), [0, yard.ways(prices, yard.place(here, pallet)) % MODULUS]

    def all(self, yard, here, pallet, wish, prices):
        told_prices = [(one, prices[yard.place(here, one)]) for one in here if one]
        return price_all(*wish), [0, 0] + flat(told_prices)

    def weigh(self, yard, here, pallet, wish, prices):
        row = yard.shifts(here)[:1]
        price = prices[yard.place(here, pallet)]
        behind = prices[yard.place(yard.after(here, row[0]), pallet)]
        return weigh(pallet, *wish, flat(row)), [0, int(price == 1 and behind == 0), price, behind]

    def go(self, yard, here, pallet, wish, prices):
        end = self.end(yard, here, pallet, prices)
        return go([pallet], *wish), [0, prices[yard.place(here, pallet)], pallet, end.index(pallet)]

    def end(self, yard, here, pallet, prices):
        for left in reversed(range(prices[yard.place(here, pallet)])):
            here = next(after for after in [yard.after(here, shift) for shift in yard.shifts(here)]
                        if prices[yard.place(after, pallet)] == left)
        return here


if __name__ == "__main__":
    unittest.main()
