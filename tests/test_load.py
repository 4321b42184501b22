"""load: plans, first faults, and what is held behind it."""

import random
import unittest

from tests.helper import ask, ask_last, load, near, park, stand, told


class Plans(unittest.TestCase):
    def check(self, text, cells, cabins):
        self.assertEqual(ask(load(text)), [[0, cells, cabins]], text)

    def test_one_floor(self):
        self.check("park a\nfloor\nC\n", 1, 1)
        self.check("park p1\nfloor\nC.\n..\n", 4, 1)
        self.check(park("C.#. .#C. ..L."), 10, 2)

    def test_two_to_four_floors_with_lifts(self):
        self.check(park("CL", ".L"), 4, 1)
        self.check(park("CL ..", "#L #.", ".L C."), 10, 2)
        self.check(park("LC", "L#", "L.", "LC"), 7, 2)

    def test_lifts_at_several_places(self):
        self.check(park("L.L .C.", "L#L ..."), 11, 1)

    def test_lifts_on_one_floor_alone(self):
        self.check(park("LCL"), 3, 1)

    def test_rows_and_floors_without_cells(self):
        self.check(park("### .C."), 3, 1)
        self.check(park("##", "C.", "##"), 2, 1)

    def test_names(self):
        for name in ("a", "z", "a0", "z9", "abcdefghijkl", "a12345678901", "park", "floor"):
            self.check("park " + name + "\nfloor\nC\n", 1, 1)


class Edges(unittest.TestCase):
    def test_eight_rows_and_nine(self):
        self.assertEqual(ask_last(load(park("C " + ". " * 7))), [0, 8, 1])
        self.assertEqual(ask_last(load(park("C " + ". " * 8))), [-6, 4, 10])

    def test_eight_signs_and_nine(self):
        self.assertEqual(ask_last(load(park("C......."))), [0, 8, 1])
        self.assertEqual(ask_last(load(park("C........"))), [-6, 4, 2])
        self.assertEqual(ask_last(load(park("C########"))), [-6, 4, 2])

    def test_four_floors_and_five(self):
        self.assertEqual(ask_last(load(park("CL", "#L", "#L", "#L"))), [0, 5, 1])
        self.assertEqual(ask_last(load(park("CL", "#L", "#L", "#L", "#L"))), [-6, 4, 9])

    def test_twenty_cells_and_twenty_one(self):
        self.assertEqual(ask_last(load(park("C.... ..... ..... ....."))), [0, 20, 1])
        self.assertEqual(ask_last(load(park("C...... ....... ......."))), [-6, 4, 4])
        self.assertEqual(ask_last(load(park("C.... ..... ..... ..... #.###"))), [-6, 4, 6])
        self.assertEqual(ask_last(load(park("C.... ..... ..... ..... ##### #.###"))), [-6, 4, 7])

    def test_cells_are_counted_over_all_floors(self):
        self.assertEqual(ask_last(load(park("C.... ....L", ".#... ....L", "##### ####L"))), [0, 20, 1])
        self.assertEqual(ask_last(load(park("C.... ....L", ".#... ....L", "##### ###.L"))), [-6, 4, 9])
        self.assertEqual(ask_last(load(park("C.... ....L", "..... ....L", "##### ####L"))), [-6, 4, 9])
        self.assertEqual(ask_last(load(park("C.... ....L", "..... ....L", "####L #####"))), [-6, 4, 8])

    def test_cabins_one_four_none_and_five(self):
        self.assertEqual(ask_last(load(park("...C."))), [0, 5, 1])
        self.assertEqual(ask_last(load(park("CC.CC"))), [0, 5, 4])
        self.assertEqual(ask_last(load(park("....."))), [-6, 5, 3])
        self.assertEqual(ask_last(load(park("CCCCC"))), [-6, 5, 3])

    def test_cabins_are_counted_over_all_floors(self):
        self.assertEqual(ask_last(load(park("LCC", "LCC"))), [0, 6, 4])
        self.assertEqual(ask_last(load(park("LCC", "LCC", "LC."))), [-6, 5, 7])
        self.assertEqual(ask_last(load(park("L..", "L.C"))), [0, 6, 1])

    def test_names_of_twelve_bytes_and_thirteen(self):
        self.assertEqual(ask_last(load("park abcdefghijkl\nfloor\nC\n")), [0, 1, 1])
        self.assertEqual(ask_last(load("park abcdefghijklm\nfloor\nC\n")), [-6, 1, 0])
        self.assertEqual(ask_last(load("park a23456789012\nfloor\nC\n")), [0, 1, 1])
        self.assertEqual(ask_last(load("park a234567890123\nfloor\nC\n")), [-6, 1, 0])

    def test_four_hundred_bytes(self):
        text = "park a\nfloor\nC\n" + "C\n" * 192 + "C"
        self.assertEqual(len(text), 400)
        self.assertEqual(ask_last(load(text)), [-6, 4, 10])
        self.assertEqual(ask_last(load([0] * 400)), [-6, 1, 0])
        self.assertEqual(ask_last(load([10] * 400)), [-6, 1, 0])
        self.assertEqual(ask_last(load([255] * 400)), [-6, 1, 0])


class Faults(unittest.TestCase):
    def check(self, text, kind, line):
        self.assertEqual(ask(load(text)), [[-6, kind, line]], repr(text))

    def test_the_empty_text(self):
        self.check("", 1, 0)

    def test_first_line(self):
        heads = ("", "park", "park ", "parka", "park  a", " park a", "park a ", "park a b", "Park a", "PARK a",
                 "park 1", "park 1a", "park A", "park aB", "park a-", "park a_", "park a.", "parc a", "par a",
                 "floor", "C", "park\ta", "park `", "park {", "park a/", "park a:", "park a{", "park a`")
        for head in heads:
            self.check(head + "\nfloor\nC\n", 1, 0)

    def test_no_line(self):
        for text in ("park a", "park", "floor", "C", " ", "x"):
            self.check(text, 1, 0)

    def test_neither_floor_nor_row(self):
        lines = ("", " ", "floors", "floo", "Floor", "floor ", " floor", "FLOOR", "c", "l", "C ", " C", "C.x", "CLX",
                 "park b", "-", "C\t", "C\r", "\0", "C\0", "0", "\xff", "/", "$", "\"", "B", "D", "K", "M", "\x0b")
        for line in lines:
            self.check("park a\n" + line + "\nfloor\nC\n", 1, 1)
            self.check("park a\nfloor\n" + line + "\nC\n", 1, 2)
            self.check("park a\nfloor\nC\n" + line + "\n", 1, 3)

    def test_row_before_the_first_floor(self):
        self.check("park a\nC\n", 1, 1)
        self.check("park a\n#\nfloor\nC\n", 1, 1)

    def test_floor_behind_a_floor_without_rows(self):
        self.check("park a\nfloor\nfloor\nC\n", 1, 2)
        self.check("park a\nfloor\nC\nfloor\nfloor\nC\n", 1, 4)

    def test_something_behind_the_last_line_end(self):
        for rest in ("C", "floor", "park a", "#", " ", "x", "\0", "\r", "\xff"):
            self.check("park a\nfloor\nC\n" + rest, 1, 3)
        self.check("park a\nC", 1, 1)
        self.check("park a\nfloor\nC", 1, 2)

    def test_no_floor(self):
        self.check("park a\n", 1, 1)

    def test_last_floor_without_rows(self):
        self.check("park a\nfloor\n", 1, 2)
        self.check("park a\nfloor\nC\nfloor\n", 1, 4)

    def test_row_of_another_length(self):
        self.check(park("C. ."), 2, 3)
        self.check(park("C. ..."), 2, 3)
        self.check(park("C. .. ."), 2, 4)
        self.check(park("CL ..", "L"), 2, 5)
        self.check(park("CL ..", ".L ..."), 2, 6)

    def test_too_many_rows(self):
        self.check(park("CL", ".L .."), 3, 5)
        self.check(park("CL ..", ".L .. .. .."), 3, 7)
        self.check(park("CL", ".L", ".L .."), 3, 7)

    def test_too_few_rows(self):
        self.check(park("CL ..", ".L"), 3, 6)
        self.check(park("CL .. ..", ".L ..", ".L .. .."), 3, 8)
        self.check(park("CL ..", ".L ..", ".L"), 3, 9)

    def test_too_much(self):
        self.check(park("C", ".", ".", ".", "."), 4, 9)
        self.check(park("C........ ........."), 4, 2)
        self.check(park("C . . . . . . . . . ."), 4, 10)
        self.check(park("C....... ........ ........ ........"), 4, 4)

    def test_cabins(self):
        self.check(park(". ."), 5, 4)
        self.check(park("##"), 5, 3)
        self.check(park("CCC CC."), 5, 4)

    def test_not_hanging_together(self):
        self.check(park("C#."), 6, 3)
        self.check(park("C# #."), 6, 4)
        self.check(park("C.", ".."), 6, 5)
        self.check(park("CL", "L."), 6, 5)
        self.check(park("CL", ".."), 6, 5)
        self.check(park("C.", ".L"), 6, 5)
        self.check(park("LC .#", "#. L."), 6, 7)
        self.check(park("CL", "##", ".L"), 6, 7)
        self.check(park("CL", "..", ".L"), 6, 7)
        self.check(park("..#.C"), 6, 3)

    def test_rows_do_not_go_on_at_the_next_one(self):
        self.check(park("##C .##"), 6, 4)
        self.check(park("##C", "C##"), 6, 5)

    def test_of_several_the_first_line(self):
        self.check("parc a\nC\nfloor\nfloor\nx", 1, 0)
        self.check("park a\nfloor\n.........\nx\n", 4, 2)
        self.check("park a\nfloor\n..\n.\nx\n", 2, 3)
        self.check("park a\nfloor\n..\nfloor\n..\n..\nfloor\nfloor\n", 3, 5)
        self.check(park("C. .", "..") + "x", 2, 3)
        self.check(park("..#.", ".... ....", "..."), 3, 5)

    def test_of_several_at_one_line_the_least_kind(self):
        self.check(park(".. .........") + "x", 2, 3)
        self.check(park("..", ".. ..."), 2, 5)
        self.check(park(". " * 8, ". " * 8 + ".."), 2, 19)
        self.check(park("....... ....... ......", ""), 2, 4)
        self.check(park("....... ....... ........"), 2, 4)
        self.check(park(". " * 8, ". " * 9), 3, 19)
        self.check(park(".....", "#####", ".....", "..... ....."), 3, 9)
        self.check(park("..... .....", "..... ..... ....."), 3, 7)
        self.check(park(". .", ". .", ". .", ".", ". ."), 3, 12)
        self.check(park(".", ".", ".", "", "."), 1, 8)
        self.check(park(". .", "", ". ."), 1, 5)
        self.check(park(". .", "."), 3, 6)
        self.check(park(". .", ".") + ".", 1, 6)
        self.check(park(". .", ""), 1, 5)
        self.check(park(".#."), 5, 3)
        self.check(park(".#.") + ".", 1, 3)
        self.check(park("CCC#CC"), 5, 3)
        self.check(park("C#.") + "\n", 1, 3)


def slow_first_fault(text):
    """The first fault, as all faults that are so at any line, of which the least goes; None if there is none."""
    lines = text.split("\n")
    rest = lines.pop()
    end = len(lines)
    found = []
    if not lines or not is_head(lines[0]):
        found.append((0, 1))
    floors = []
    for at, line in enumerate(lines[1:], 1):
        if line == "floor":
            if floors and len(floors[-1]) == 0:
                found.append((at, 1))
            if floors and len(floors[-1]) < len(floors[0]):
                found.append((at, 3))
            floors.append([])
            if len(floors) == 5:
                found.append((at, 4))
        elif line and set(line) <= set("#.CL"):
            if not floors:
                found.append((at, 1))
                break
            floors[-1].append(line)
            rows = [row for floor in floors for row in floor]
            found += [(at, 2)] * (len(line) != len(rows[0]))
            found += [(at, 3)] * (len(floors[-1]) > len(floors[0]))
            found += [(at, 4)] * (len(line) > 8 or len(floors[0]) == 9)
            found += [(at, 4)] * (sum(sign != "#" for row in rows for sign in row) > 20)
        else:
            found.append((at, 1))
    found += [(end, 1)] * (rest != "" or not floors or not floors[-1])
    found += [(end, 3)] * (floors != [] and len(floors[-1]) < len(floors[0]))
    found += [(end, 5)] * (not 1 <= sum(row.count("C") for floor in floors for row in floor) <= 4)
    found += [(end, 6)] * (not found and slow_parts(floors) > 1)
    return min(found, default=None)


def is_head(line):
    name = line[5:]
    small = "abcdefghijklmnopqrstuvwxyz"
    return (line.startswith("park ") and 0 < len(name) < 13 and name[0] in small
            and all(sign in small + "0123456789" for sign in name))


def slow_parts(floors):
    """In how many parts the plan falls: each cell is merged with its neighbours until nothing changes."""
    part = {}
    for level, floor in enumerate(floors):
        for line, row in enumerate(floor):
            part.update({(level, line, at): (level, line, at) for at, sign in enumerate(row) if sign != "#"})
    changed = True
    while changed:
        changed = False
        for one in part:
            for axis in (0, 1, 2):
                other = tuple(value + (axis == index) for index, value in enumerate(one))
                if other in part and part[one] != part[other]:
                    lifted = all(floors[a][b][c] == "L" for a, b, c in (one, other))
                    if axis > 0 or lifted:
                        part[one] = part[other] = min(part[one], part[other])
                        changed = True
    return len(set(part.values()))


class RandomTexts(unittest.TestCase):
    def test_first_faults_of_changed_plans(self):
        dice = random.Random(7)
        kinds = {}
        for turn in range(4000):
            text = changed_text(dice)
            fault = slow_first_fault(text)
            answer = ask_last(load(text))
            if fault is None:
                self.assertEqual(answer[0], 0, repr(text))
            else:
                self.assertEqual(answer, [-6, fault[1], fault[0]], repr(text))
            kind = 0 if fault is None else fault[1]
            kinds[kind] = kinds.get(kind, 0) + 1
        for kind in range(7):
            self.assertGreater(kinds.get(kind, 0), 20, kind)


def changed_text(dice):
    width = dice.randint(1, 9)
    height = dice.choice([1, 1, 2, 2, 3, 8, 9])
    signs = dice.choice(["#.CL", "...L", "##.L", ".LLC", "....C", "######C", "CL"])
    floors = []
    for level in range(dice.choice([1, 1, 2, 2, 3, 4, 5])):
        rows = ["".join(dice.choice(signs) for at in range(width)) for line in range(height)]
        floors.append(" ".join(rows))
    lines = park(*floors).split("\n")
    for turn in range(dice.choice([0, 0, 0, 1, 2])):
        at = dice.randrange(len(lines))
        change = dice.randrange(4)
        if change == 0:
            lines.insert(at, dice.choice(["floor", ".", "C" * width, "#" * width, "", "x", "park a"]))
        elif change == 1 and len(lines) > 1:
            lines.pop(at)
        elif change == 2:
            lines[at] += dice.choice([".", "C", "x", " "])
        else:
            lines[at] = lines[at][:-1]
    return "\n".join(lines)[:400]


class Holding(unittest.TestCase):
    def test_a_refused_load_keeps_plan_and_standing(self):
        calls = [load(park("C..")), stand([5, 0, 6]), load(park("C#.")), told(), near(2), stand([0, 1, 2]),
                 load(""), told()]
        self.assertEqual(ask(*calls), [[0, 3, 1], [0], [-6, 6, 3], [0, 5, 0, 6], [0, 1], [0], [-6, 1, 0],
                                       [0, 0, 1, 2]])

    def test_a_load_lets_nothing_stand(self):
        calls = [load(park("C..")), stand([5, 0, 6]), load(park("C..")), told(), stand([0, 7, 8]), told()]
        self.assertEqual(ask(*calls), [[0, 3, 1], [0], [0, 3, 1], [-8], [0], [0, 0, 7, 8]])

    def test_a_load_puts_its_plan_in_the_place_of_the_old(self):
        calls = [load(park("C..")), near(1), load(park("C .")), near(1), near(2)]
        self.assertEqual(ask(*calls), [[0, 3, 1], [0, 0, 2], [0, 2, 1], [0, 0], [-4]])

    def test_bytes_are_handed_in_as_numbers(self):
        text = [112, 97, 114, 107, 32, 97, 10, 102, 108, 111, 111, 114, 10, 67, 46, 35, 10, 35, 76, 46, 10]
        self.assertEqual(ask(load(text), near(2)), [[0, 4, 1], [0, 1, 3]])


if __name__ == "__main__":
    unittest.main()
