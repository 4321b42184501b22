"""The interface, promise 5, and the order of the refusals that all calls share."""

import itertools
import random
import unittest

import fewestshifts.hall
from fewestshifts.hall import answers
from tests.helper import (GREATEST, MODULUS, Yard, ask, ask_last, fetch, firsts, flat, go, load, near, park,
                          price_all, random_standing, run, stand, told, ways, weigh)

LINE = park("C...")
GRID = park("C.... ..... ..... ....C")


def joined(calls):
    return list(itertools.chain(*calls))


class Unchanging(list):
    """A list that fails as soon as somebody changes it."""

    def refuse(self, *given):
        raise AssertionError("the list that was handed in was changed")

    __setitem__ = __delitem__ = __iadd__ = __imul__ = refuse
    append = clear = extend = insert = pop = remove = reverse = sort = refuse


ASKING = (told(), near(0), near(9), fetch([2], [3]), fetch([1, 2], [], [3]), firsts(2, [3]), ways(2, [3]),
          weigh(2, [3], [], [1, 2]), weigh(1, [], [], [1, 2, 2, 3, 0, 1]), price_all(), price_all([2], [0]),
          run([]))
REFUSED = (load(""), load(park("C#.")), load(park("C....") + "x"), stand([]), stand([1, 2, 3, 400]),
           stand([1, 1, 0, 0]), stand([1, 2, 3, 4]), near(4), run([1]), run([1, 2, 4, 3]), run([1, 2, 1, 2]),
           run([1, 2, 0, 1, 0, 0]), fetch([]), fetch([3]), fetch([1], [4]), fetch([2]), go([]), go([0]), go([1, 1]),
           go([1], [4]), go([1], [], [0, 1, 2]), go([2]), go([1], [0], [0]), firsts(3), firsts(1, [0, 0]), firsts(2),
           ways(3), ways(1, [], [4]), ways(2), weigh(3, [], [], []), weigh(1, [4], [], []), weigh(1, [], [], [4, 0]),
           weigh(1, [], [], [1, 2, 1, 2]), price_all([4]), price_all([], [1, 1]))


class PromiseFive(unittest.TestCase):
    """What is refused and what only asks changes nothing."""

    start = (load(LINE), stand([1, 2, 0, 0]))
    later = (told(), near(1), fetch([2], [3]), price_all(), go([2], [3]), told())

    def check(self, calls):
        plain = ask(*self.start, *self.later)[2:]
        self.assertEqual(ask(*self.start, *calls, *self.later)[2 + len(calls):], plain)

    def test_each_by_itself(self):
        for call in ASKING + REFUSED:
            self.check([call])

    def test_all_behind_one_another(self):
        self.check(ASKING)
        self.check(REFUSED)
        self.check(REFUSED + ASKING)

    def test_they_are_what_they_are_called(self):
        for answer in ask(*self.start, *ASKING):
            if answer != [-4]:
                self.assertEqual(answer[0], 0)
        for answer in ask(*self.start, *REFUSED)[2:]:
            self.assertLess(answer[0], 0)

    def test_before_something_stands(self):
        self.assertEqual(ask(load(LINE), *REFUSED, *ASKING, near(1), told(), stand([0, 1, 2, 3]), told())[-4:],
                         [[0, 0, 2], [-8], [0], [0, 0, 1, 2, 3]])


class FirstRefusals(unittest.TestCase):
    calls = (stand([1, 2, 0, 0]), stand([]), told(), near(0), near(GREATEST), run([]), run([1]), fetch([1]),
             fetch([], [9], [9]), go([1]), go([], [9, 9]), firsts(1), firsts(0, [9]), ways(1), ways(0, [], [9]),
             weigh(1, [], [], []), weigh(0, [9], [9], [9]), price_all(), price_all([9], [9]))

    def test_no_plan_is_held(self):
        self.assertEqual(ask(*self.calls), [[-9]] * len(self.calls))
        self.assertEqual(ask(load("park a"), *self.calls)[1:], [[-9]] * len(self.calls))

    def test_nothing_stands(self):
        free_of_it = (told(), run([]), run([1]), fetch([1]), fetch([], [9], [9]), go([1]), go([], [9, 9]), firsts(1),
                      firsts(0, [9]), ways(1), ways(0, [], [9]), weigh(1, [], [], []), weigh(0, [9], [9], [9]),
                      price_all(), price_all([9], [9]))
        self.assertEqual(ask(load(LINE), *free_of_it)[1:], [[-8]] * len(free_of_it))
        self.assertEqual(ask(load(LINE), stand([1]), *free_of_it)[2:], [[-8]] * len(free_of_it))

    def test_nothing_stands_behind_another_load(self):
        calls = [load(LINE), stand([1, 2, 0, 0]), load(LINE), told(), price_all(), go([1]), near(3), stand([0] * 4)]
        self.assertEqual(ask(*calls)[2:], [[0, 4, 1], [-8], [-8], [-8], [0, 2], [-6, 4]])


class OneList(unittest.TestCase):
    def test_by_hand(self):
        text = [112, 97, 114, 107, 32, 97, 10, 102, 108, 111, 111, 114, 10, 67, 46, 46, 10]
        calls = [2, 0, 17] + text + [2, 1, 3, 7, 8, 0, 2, 3, 1, 4, 2, 1, 2, 5, 1, 8, 1, 1, 0, 6, 1, 8, 1, 1, 0, 7, 8,
                                     0, 0, 8, 7, 0, 0, 9, 8, 1, 2, 1, 0, 2, 1, 2, 10, 0, 0, 10, 1, 3, 0]
        asked = [1, -9, 3, 0, 3, 1, 1, -8, 1, 0, 4, 0, 7, 8, 0, 3, 0, 0, 2, 2, 0, 1, 4, 0, 1, 2, 1, 4, 0, 1, 8, 1,
                 1, -5, 2, 0, 1, 4, 0, 0, 2, 1, 6, 0, 1, 7, 0, 8, -1, 1, -4]
        self.assertEqual(answers(calls), asked)

    def test_counts_stand_before_the_answers(self):
        calls = [load(park("C..")), stand([7, 8, 0]), told(), near(1), near(3), run([1]), stand([1]), load("x")]
        self.assertEqual(answers(joined(calls)), [3, 0, 3, 1, 1, 0, 4, 0, 7, 8, 0, 3, 0, 0, 2, 1, -4, 1, -4, 2, -6, 1,
                                                  3, -6, 1, 0])

    def test_one_call(self):
        self.assertEqual(answers([2]), [1, -9])
        self.assertEqual(answers([0, 0]), [3, -6, 1, 0])

    def test_a_refused_call_is_read_to_its_end(self):
        for call in FirstRefusals.calls:
            self.assertEqual(answers(call + [2]), [1, -9, 1, -9])

    def test_whole_numbers_in_a_list(self):
        numbers = answers(joined((load(LINE), stand([1, 2, 0, 0])) + ASKING + REFUSED))
        self.assertIs(type(numbers), list)
        self.assertEqual({type(number) for number in numbers}, {int})

    def test_the_list_stays_as_it_was(self):
        calls = joined((load(LINE), stand([1, 2, 0, 0])) + ASKING + REFUSED + (go([2], [3]), run([3, 2]), told()))
        before = list(calls)
        self.assertEqual(answers(Unchanging(calls)), answers(calls))
        self.assertEqual(calls, before)

    def test_what_is_given_back_is_new_each_time(self):
        calls = joined([load(LINE), stand([1, 2, 0, 0]), told(), near(1), price_all()])
        first = answers(calls)
        kept = list(first)
        first.clear()
        self.assertEqual(answers(calls), kept)

    def test_lists_do_not_know_of_each_other(self):
        self.assertEqual(ask(load(LINE), stand([1, 2, 0, 0]), go([2], [3])), [[0, 4, 1], [0], [0, 2, 2, 3]])
        self.assertEqual(ask(told(), near(0), stand([1, 2, 0, 0])), [[-9]] * 3)
        self.assertEqual(ask(load(LINE), told()), [[0, 4, 1], [-8]])
        self.assertEqual(ask(load(LINE), stand([1, 2, 0, 0]), told()), [[0, 4, 1], [0], [0, 1, 2, 0, 0]])

    def test_by_its_full_name(self):
        self.assertEqual(fewestshifts.hall.answers([2, 2]), [1, -9, 1, -9])

    def test_greatest_numbers(self):
        great = [GREATEST]
        calls = [stand(great * 4), near(GREATEST), run(great * 2), fetch(great), fetch([1], great), fetch([1], [], great),
                 go(great), firsts(GREATEST), ways(GREATEST), weigh(GREATEST, [], [], []), weigh(1, [], [], great * 2),
                 price_all(great), price_all([], great)]
        self.assertEqual(ask(load(LINE), stand([1, 2, 0, 0]), *calls)[2:],
                         [[-6, 2], [-4], [-4], [-3], [-4], [-4], [-3], [-3], [-3], [-3], [-4], [-4], [-4]])

    def test_lists_of_a_thousand_numbers(self):
        long = [0] * 1000
        rows = list(range(1000))
        back_and_forth = [1, 2, 2, 1] * 250
        start = [load(LINE), stand([1, 2, 0, 0])]
        calls = [stand(long), run(back_and_forth), fetch(rows), weigh(2, [1], [], back_and_forth), told()]
        self.assertEqual(ask(*start, *calls)[2:], [[-6, 1], [0, 500], [-3], [0, 0] + [0, 1] * 250 + [0],
                                                   [0, 1, 2, 0, 0]])
        self.assertEqual(ask(*start, go([1], rows, long), weigh(1, rows, long, long), told())[2:],
                         [[-4], [-4], [0, 1, 2, 0, 0]])
        self.assertEqual(ask_last(*start, go(rows, rows, rows)), [-3])


class ManyCalls(unittest.TestCase):
    def test_a_hundred_calls_with_24_that_search(self):
        """On 20 cells with 3 empty ones, each answer against what is found without the package."""
        yard = Yard(GRID)
        dice = random.Random(51)
        wishes = (([], []), ([19], [0, 1, 5]), ([7, 12], [18]), ([4], []))
        prices = [yard.prices(3, *wish) for wish in wishes]
        here = tuple(random_standing(dice, yard.size, 3))
        calls = [load(GRID), stand(list(here))]
        asked = [[0, 20, 2], [0]]
        for turn in range(24):
            which = turn % len(wishes)
            pallet = dice.choice([one for one in here if one])
            call, answer = [self.ways, self.all, self.weigh, self.go][turn // 4 % 4](
                yard, here, pallet, wishes[which], prices[which])
            calls.append(call)
            asked.append(answer)
            if call[0] == 6:
                here = self.end(yard, here, pallet, prices[which])
            shift = dice.choice(yard.shifts(here))
            here = yard.after(here, shift)
            calls += [run(shift), told(), near(turn % 20)]
            asked += [[0, 1], [0] + list(here), [0] + sorted(yard.near[turn % 20])]
        calls += [told(), near(20)]
        asked += [[0] + list(here), [-4]]
        self.assertEqual(len(calls), 100)
        self.assertEqual(ask(*calls), asked)

    def ways(self, yard, here, pallet, wish, prices):
        return ways(pallet, *wish), [0, yard.ways(prices, yard.place(here, pallet)) % MODULUS]

    def all(self, yard, here, pallet, wish, prices):
        told_prices = [(one, prices[yard.place(here, one)]) for one in here if one]
        return price_all(*wish), [0, 0] + flat(told_prices)

    def weigh(self, yard, here, pallet, wish, prices):
        row = yard.shifts(here)[:1]
        price = prices[yard.place(here, pallet)]
        behind = prices[yard.place(yard.after(here, row[0]), pallet)]
        return weigh(pallet, *wish, flat(row)), [0, int(price == 1 and behind == 0), price, behind]

    def go(self, yard, here, pallet, wish, prices):
        end = self.end(yard, here, pallet, prices)
        return go([pallet], *wish), [0, prices[yard.place(here, pallet)], pallet, end.index(pallet)]

    def end(self, yard, here, pallet, prices):
        for left in reversed(range(prices[yard.place(here, pallet)])):
            here = next(after for after in [yard.after(here, shift) for shift in yard.shifts(here)]
                        if prices[yard.place(after, pallet)] == left)
        return here


if __name__ == "__main__":
    unittest.main()
