"""[8], [10], [11], [12], [13], [14]: families, their signs, and the count of a room."""

import unittest
from itertools import permutations, product
from math import prod

from boxheap import families
from boxheap.errors import NoLanes
from boxheap.families import choose, count, sign, turned
from boxheap.lanes import lanes_of, table_of
from boxheap.tables import after
from tests.reference import (
    SMALL_ROOMS, WIDEST, all_cases, all_families, all_tables, all_texts, filled, told_end, told_meetings,
    told_sign, told_spots, told_turned, wide_tables,
)

# Rooms with so few families that all of them can be tried.
FEW_FAMILIES = [(1, 1, 1), (1, 3, 2), (2, 1, 1), (2, 2, 1), (2, 1, 3), (2, 2, 2), (2, 3, 2), (3, 1, 1), (3, 1, 2),
                (3, 2, 1), (3, 2, 2), (4, 1, 1), (4, 2, 1), (4, 1, 2), (5, 1, 1), (6, 1, 1)]


class ChooseTest(unittest.TestCase):
    def test_told_numbers(self):
        self.assertEqual([choose(0, 0), choose(1, 0), choose(1, 1)], [1, 1, 1])
        self.assertEqual([choose(4, few) for few in range(5)], [1, 4, 6, 4, 1])
        self.assertEqual(choose(5, 2), 10)
        self.assertEqual(choose(40, 1), 40)
        self.assertEqual(choose(40, 20), 137846528820)

    def test_every_number(self):
        row = [1]
        for many in range(41):
            self.assertEqual([choose(many, few) for few in range(many + 1)], row)
            row = [1] + [one + other for one, other in zip(row, row[1:])] + [1]

    def test_nought_below_and_above(self):
        for many in range(41):
            for few in [-1, -2, -40, -10 ** 5000, many + 1, many + 2, many + 40, 10 ** 5000]:
                self.assertEqual(choose(many, few), 0)

    def test_somewhat_beyond_the_limit(self):
        self.assertEqual([choose(41, 1), choose(41, 41), choose(60, 2), choose(60, 61)], [41, 1, 1770, 0])
        self.assertEqual([choose(-1, few) for few in [-2, -1, 0, 1]], [0, 0, 0, 0])


class SignTest(unittest.TestCase):
    def test_told_lists(self):
        for ends, told in [([], 1), ([0], 1), ([0, 1], 1), ([1, 0], -1), ([0, 2, 1], -1), ([1, 2, 0], 1),
                           ([2, 0, 1], 1), ([2, 1, 0], -1), ([3, 2, 1, 0], 1), ([3, 0, 1, 2], -1),
                           ([5, 4, 3, 2, 1, 0], -1), ([5, 0, 1, 2, 3, 4], -1), ([1, 0, 3, 2, 5, 4], -1)]:
            self.assertEqual(sign(ends), told, ends)

    def test_all_lists_of_up_to_six_ends(self):
        for many in range(7):
            for ends in permutations(range(many)):
                self.assertEqual(sign(list(ends)), told_sign(ends), ends)


class TurnedTest(unittest.TestCase):
    def test_lanes_that_meet_at_one_spot(self):
        # At the first step, in the middle and at the last step.
        room = (2, 3, 3)
        for lanes, told in [
            (["drrrdd", "rddrdr"], ["dddrdr", "rrrrdd"]),
            (["rddrrd", "drrddr"], ["rddddr", "drrrrd"]),
            (["rrdddr", "ddrrrd"], ["rrdddd", "ddrrrr"]),
        ]:
            self.assertEqual(turned(room, [0, 1], lanes), ([1, 0], told))
            self.assertEqual(turned(room, [1, 0], told), ([0, 1], lanes))

    def test_told_families(self):
        for room, ends, lanes, told in [
            ((2, 1, 1), [0, 1], ["dr", "rd"], ([1, 0], ["dd", "rr"])),
            ((2, 1, 1), [1, 0], ["dd", "rr"], ([0, 1], ["dr", "rd"])),
            ((2, 2, 2), [0, 1], ["drrd", "rddr"], ([1, 0], ["dddr", "rrrd"])),
            ((2, 2, 2), [0, 1], ["rddr", "drrd"], ([1, 0], ["rddd", "drrr"])),
            # At two spots: what is behind the first one is exchanged, the second one, too.
            ((2, 2, 2), [0, 1], ["ddrr", "rrdd"], ([1, 0], ["drdd", "rdrr"])),
            # Lanes 1 and 2 meet, lane 0 is by itself.
            ((3, 1, 1), [0, 1, 2], ["rd", "dr", "rd"], ([0, 2, 1], ["rd", "dd", "rr"])),
            # All three at one spot: the first two are exchanged.
            ((3, 2, 2), [0, 1, 2], ["ddrr", "drdr", "rrdd"], ([1, 0, 2], ["dddr", "drrr", "rrdd"])),
        ]:
            with self.subTest(room=room, ends=ends, lanes=lanes):
                self.assertEqual(turned(room, ends, lanes), told)

    def test_no_two_lanes_meet(self):
        self.assertIsNone(turned((1, 1, 1), [0], ["rd"]))
        self.assertIsNone(turned((1, 3, 2), [0], ["drrdr"]))
        for room, table in all_cases():
            self.assertIsNone(turned(room, list(range(room[0])), lanes_of(room, table)))

    def test_every_family(self):
        for room in FEW_FAMILIES:
            for ends, lanes in all_families(room):
                with self.subTest(room=room, ends=ends, lanes=lanes):
                    self.check_family(room, ends, lanes)

    def test_families_of_the_greatest_room(self):
        steps = ["r" * 20 + "d" * 20, "d" * 20 + "r" * 20, "rd" * 20, "dr" * 20, "rrdd" * 10,
                 "rd" * 10 + "r" * 10 + "d" * 10]
        for order in list(permutations(steps))[::11]:
            for ends in [[0, 1, 2, 3, 4, 5], [5, 4, 3, 2, 1, 0], [3, 0, 5, 2, 1, 4]]:
                lanes = [bent(lane, k - m) for k, (lane, m) in enumerate(zip(order, ends))]
                self.check_family(WIDEST, ends, lanes)

    def check_family(self, room, ends, lanes):
        told = turned(room, ends, lanes)
        self.assertEqual(told, told_turned(room, ends, lanes))
        if told is None:
            self.assertEqual(ends, sorted(ends))
            self.assertEqual(lanes_of(room, table_of(room, lanes)), lanes)
            return
        self.assertEqual([type(told), type(told[0]), type(told[1])], [tuple, list, list])
        self.assertEqual(sign(told[0]), -sign(ends))
        for k, lane in enumerate(told[1]):
            self.assertEqual(told_spots(room, k, lane)[-1], told_end(room, told[0][k]))
        self.assertEqual(turned(room, *told), (ends, lanes))


def bent(lane, more):
    """Exchange so many steps of a lane of a table that it has so many `r` more, or fewer."""
    if more < 0:
        return lane.replace("r", "d", -more)
    return lane.replace("d", "r", more)


class NoFamilyTest(unittest.TestCase):
    def refused(self, room, ends, lanes):
        with self.assertRaises(NoLanes):
            turned(room, ends, lanes)

    def test_ends_that_are_not_each_one_once(self):
        room, lanes = (3, 2, 2), ["rrdd", "rdrd", "ddrr"]
        self.assertIsNone(turned(room, [0, 1, 2], lanes))
        for ends in [[], [0], [0, 1], [0, 1, 2, 3], [0, 1, 2, 2], [0, 1, 1], [0, 0, 2], [2, 2, 2], [0, 1, 3],
                     [-1, 0, 1], [1, 2, 3], [0, 1, -1], [0, 1, 10 ** 5000], [-3, -2, -1]]:
            self.refused(room, ends, lanes)

    def test_an_end_told_twice_with_lanes_that_lead_there(self):
        room = (2, 2, 2)
        self.refused(room, [0, 0], ["rrdd", "rrrd"])
        self.refused(room, [1, 1], ["dddr", "ddrr"])
        self.refused(room, [0, 2], ["rrdd", "dddr"])
        self.refused(room, [-1, 1], ["rrrd", "ddrr"])

    def test_ends_and_lanes_one_too_many_or_too_few(self):
        room = (2, 2, 2)
        self.assertIsNone(turned(room, [0, 1], ["rrdd", "ddrr"]))
        self.refused(room, [0], ["rrdd"])
        self.refused(room, [0, 1, 2], ["rrdd", "rdrd", "ddrr"])
        self.refused(room, [0, 1], ["rrdd"])
        self.refused(room, [0, 1], ["rrdd", "ddrr", "ddrr"])
        self.refused(room, [0, 1], ["rrdd", "ddrr", ""])
        self.refused(room, [0, 1], [])
        self.refused(room, [], [])

    def test_ends_in_another_order_than_the_lanes_lead(self):
        for room in FEW_FAMILIES[:9]:
            for ends, lanes in all_families(room):
                for others in permutations(range(room[0])):
                    if list(others) != ends:
                        self.refused(room, list(others), lanes)

    def test_a_step_too_many_or_too_few_or_another_sign(self):
        for room, ends, lanes in [
            ((1, 2, 1), [0], ["rdr"]), ((2, 2, 2), [0, 1], ["rrdd", "rddr"]), ((2, 2, 2), [1, 0], ["ddrd", "rdrr"]),
            ((3, 2, 2), [1, 2, 0], ["drdd", "rddd", "rrrr"]),
        ]:
            turned(room, ends, lanes)
            for k, lane in enumerate(lanes):
                for at in range(len(lane)):
                    wrong = [lane[:at] + sign + lane[at:] for sign in "rdxR "]
                    wrong += [lane[:at] + sign + lane[at + 1:] for sign in ["", "x", "R", "D", " ", "\n", "rr", "dd"]]
                    wrong += [lane[:at] + ("d" if lane[at] == "r" else "r") + lane[at + 1:]]
                    for text in wrong:
                        self.refused(room, ends, lanes[:k] + [text] + lanes[k + 1:])
                for text in ["", lane * 2, lane.upper(), "x" * len(lane), lane + "\n"]:
                    self.refused(room, ends, lanes[:k] + [text] + lanes[k + 1:])

    def test_fewer_than_no_steps(self):
        # Lane 0 would have one `r` fewer than none to the last end, lane 2 one `d` fewer to end 0.
        for columns, height in [(1, 1), (1, 4), (4, 1)]:
            room, ends = (3, columns, height), [2, 1, 0]
            texts = ["r" * max(0, columns + k - m) + "d" * max(0, height - k + m) for k, m in enumerate(ends)]
            self.refused(room, ends, texts)
            self.refused(room, ends, [text[:columns + height] for text in texts])
            self.refused(room, ends, [texts[0][1:], texts[1], texts[2][:-1]])
            self.refused(room, ends, ["", texts[1], ""])

    def test_no_steps_of_one_sign_are_let(self):
        self.assertEqual(turned((3, 2, 2), [2, 1, 0], ["dddd", "drdr", "rrrr"]),
                         ([1, 2, 0], ["dddr", "drdd", "rrrr"]))

    def test_what_is_no_list_of_ends_or_texts(self):
        for ends in [None, 0, "01", (0, 1), {0: 0, 1: 1}, [None, 0], ["0", "1"], [[0], [1]], [False, True], [0, True]]:
            self.refused((2, 1, 1), ends, ["dr", "rd"])
        for lanes in [None, 5, "rd", ("dr", "rd"), [None, "rd"], [5, 6], [["d", "r"], ["r", "d"]], [b"dr", b"rd"]]:
            self.refused((2, 1, 1), [0, 1], lanes)


class CountTest(unittest.TestCase):
    def test_told_rooms(self):
        for room, told in [((1, 1, 1), 2), ((1, 2, 1), 3), ((2, 1, 1), 3), ((1, 1, 7), 8), ((2, 2, 1), 6),
                           ((2, 2, 2), 20), ((3, 3, 3), 980), ((4, 4, 4), 232848), ((6, 1, 1), 7), ((1, 20, 1), 21),
                           ((1, 1, 20), 21), ((1, 20, 20), 137846528820)]:
            self.assertEqual(count(room), told, room)

    def test_the_greatest_room(self):
        self.assertEqual(count(WIDEST), 21072789293511004443867906296942385065827356547028640000)

    def test_after_goes_through_so_many_tables(self):
        for room in SMALL_ROOMS + [(3, 3, 3), (2, 4, 3), (5, 2, 2), (6, 2, 1), (1, 6, 5)]:
            table, many = filled(room, 0), 0
            while table is not None:
                table, many = after(room, table), many + 1
            self.assertEqual(count(room), many, room)

    def test_every_room(self):
        # How many tables a room has is also told by a product over its cubes.
        for room in product(range(1, 7), range(1, 21), range(1, 21)):
            cubes = [i + j for i in range(room[0]) for j in range(room[1])]
            above = prod(at + room[2] + 1 for at in cubes)
            below = prod(at + 1 for at in cubes)
            self.assertEqual(count(room) * below, above, room)

    def test_rows_columns_and_height_may_be_exchanged(self):
        for room in product(range(1, 7), repeat=3):
            self.assertEqual(count(room), count(room[::-1]))
            self.assertEqual(count(room), count((room[1], room[0], room[2])))

    def test_lanes_between_a_beginning_and_an_end(self):
        for room in [(2, 2, 2), (3, 1, 1), (4, 1, 2), (3, 4, 2), (6, 2, 2)]:
            for k, m in product(range(room[0]), repeat=2):
                texts = all_texts(room[1] + k - m, room[2] - k + m)
                self.assertEqual(choose(room[1] + room[2], room[1] + k - m), len(texts))
                for text in texts:
                    self.assertEqual(told_spots(room, k, text)[-1], told_end(room, m))

    def test_families_that_meet_cancel_out(self):
        for room in FEW_FAMILIES:
            found = all_families(room)
            self.assertEqual(count(room), sum(sign(ends) for ends, _ in found))
            apart = [ends for ends, lanes in found if not told_meetings(room, lanes)]
            self.assertEqual(apart, [list(range(room[0]))] * count(room))
            self.assertEqual(len(apart), len(all_tables(room)))


class InterfaceTest(unittest.TestCase):
    def test_functions_are_defined_in_their_file(self):
        for name in ["choose", "sign", "turned", "count"]:
            with self.subTest(name=name):
                self.assertEqual(getattr(families, name).__module__, "boxheap.families")

    def test_arguments_have_their_names(self):
        self.assertEqual(choose(many=4, few=2), 6)
        self.assertEqual(sign(ends=[1, 0]), -1)
        self.assertEqual(turned(room=(2, 1, 1), ends=[0, 1], lanes=["dr", "rd"]), ([1, 0], ["dd", "rr"]))
        self.assertEqual(count(room=(1, 1, 1)), 2)

    def test_kinds_of_what_is_handed_out(self):
        for told in [choose(3, 2), choose(3, 4), sign([0]), count((1, 1, 1))]:
            self.assertIs(type(told), int)
        told = turned((2, 1, 1), [0, 1], ["dr", "rd"])
        self.assertEqual([type(part) for part in told], [list, list])
        self.assertEqual([type(told[0][0]), type(told[1][0])], [int, str])

    def test_wide_tables_count_as_families(self):
        for table in wide_tables():
            self.assertIsNone(turned(WIDEST, list(range(6)), lanes_of(WIDEST, table)))


if __name__ == "__main__":
    unittest.main()
