"""[7], [8], [9]: the lanes of tables, their spots, and the tables of lanes."""

import unittest
from itertools import product

from boxheap import lanes as lanes_file
from boxheap.errors import NoLanes
from boxheap.lanes import lanes_of, spots, table_of
from tests.reference import (
    SMALL_ROOMS, WIDEST, all_cases, all_tables, all_texts, filled, told_end, told_meetings, told_spots,
)

# Rooms with so few lists of texts that all of them can be tried.
FEW_LISTS = [room for room in SMALL_ROOMS if len(all_texts(room[1], room[2])) ** room[0] <= 1000]


def told_lane(row, height):
    """Return the lane of a row by [7]."""
    numbers = [height] + list(row)
    steps = ["d" * (numbers[at] - numbers[at + 1]) + "r" for at in range(len(row))]
    return "".join(steps) + "d" * row[-1]


class LanesOfTest(unittest.TestCase):
    def test_told_tables(self):
        self.assertEqual(lanes_of((2, 3, 4), [[4, 2, 1], [3, 0, 0]]), ["rddrdrd", "drdddrr"])
        self.assertEqual(lanes_of((3, 2, 3), [[3, 3], [2, 1], [0, 0]]), ["rrddd", "drdrd", "dddrr"])

    def test_the_least_room(self):
        self.assertEqual(lanes_of((1, 1, 1), [[0]]), ["dr"])
        self.assertEqual(lanes_of((1, 1, 1), [[1]]), ["rd"])

    def test_one_row(self):
        self.assertEqual(lanes_of((1, 4, 2), [[2, 1, 1, 0]]), ["rdrrdr"])
        self.assertEqual(lanes_of((1, 4, 2), [[0, 0, 0, 0]]), ["ddrrrr"])

    def test_one_column(self):
        self.assertEqual(lanes_of((3, 1, 2), [[2], [1], [0]]), ["rdd", "drd", "ddr"])

    def test_height_one(self):
        self.assertEqual(lanes_of((2, 3, 1), [[1, 1, 0], [0, 0, 0]]), ["rrdr", "drrr"])

    def test_empty_and_full_tables(self):
        self.assertEqual(lanes_of(WIDEST, filled(WIDEST, 0)), ["d" * 20 + "r" * 20] * 6)
        self.assertEqual(lanes_of(WIDEST, filled(WIDEST, 20)), ["r" * 20 + "d" * 20] * 6)

    def test_all_cases(self):
        for room, table in all_cases():
            with self.subTest(room=room, table=table):
                told = lanes_of(room, table)
                self.assertEqual(told, [told_lane(row, room[2]) for row in table])
                for lane in told:
                    self.assertEqual([lane.count("r"), lane.count("d")], list(room[1:]))
                self.assertEqual(told_meetings(room, told), [])


class SpotsTest(unittest.TestCase):
    def test_told_spots(self):
        room = (3, 2, 4)
        self.assertEqual(spots(room, 0, "rdd"), [(2, 6), (3, 6), (3, 5), (3, 4)])
        self.assertEqual(spots(room, 1, "drdd"), [(1, 5), (1, 4), (2, 4), (2, 3), (2, 2)])
        self.assertEqual(spots(room, 2, "ddr"), [(0, 4), (0, 3), (0, 2), (1, 2)])

    def test_the_empty_text(self):
        self.assertEqual(spots((1, 1, 1), 0, ""), [(0, 1)])
        self.assertEqual(spots((4, 2, 3), 0, ""), [(3, 6)])
        self.assertEqual(spots((4, 2, 3), 3, ""), [(0, 3)])
        self.assertEqual(spots(WIDEST, 0, ""), [(5, 25)])

    def test_texts_longer_than_a_lane(self):
        self.assertEqual(spots((1, 1, 1), 0, "ddd"), [(0, 1), (0, 0), (0, -1), (0, -2)])
        self.assertEqual(spots((2, 1, 1), 1, "rrrd"), [(0, 1), (1, 1), (2, 1), (3, 1), (3, 0)])
        far = spots(WIDEST, 5, "d" * 1000 + "r" * 1000)
        self.assertEqual([len(far), far[1000], far[-1]], [2001, (0, -980), (1000, -980)])

    def test_every_lane_and_text(self):
        texts = ["".join(steps) for many in range(7) for steps in product("rd", repeat=many)]
        for room in [(1, 1, 1), (3, 2, 1), (2, 5, 3), WIDEST]:
            for number, text in product(range(room[0]), texts):
                self.assertEqual(spots(room, number, text), told_spots(room, number, text))

    def test_lanes_of_tables_end_where_the_document_tells(self):
        for room, table in all_cases():
            for k, lane in enumerate(lanes_of(room, table)):
                self.assertEqual(spots(room, k, lane)[-1], told_end(room, k))


class TableOfTest(unittest.TestCase):
    def refused(self, room, lanes):
        with self.subTest(room=room, lanes=lanes), self.assertRaises(NoLanes):
            table_of(room, lanes)

    def test_told_lanes(self):
        self.assertEqual(table_of((1, 1, 1), ["dr"]), [[0]])
        self.assertEqual(table_of((1, 1, 1), ["rd"]), [[1]])
        self.assertEqual(table_of((2, 3, 4), ["rddrdrd", "drdddrr"]), [[4, 2, 1], [3, 0, 0]])
        self.assertEqual(table_of((3, 1, 2), ["rdd", "drd", "ddr"]), [[2], [1], [0]])
        self.assertEqual(table_of((2, 3, 1), ["rrdr", "drrr"]), [[1, 1, 0], [0, 0, 0]])

    def test_lanes_of_a_table_lead_back_to_it(self):
        for room, table in all_cases():
            with self.subTest(room=room, table=table):
                self.assertEqual(table_of(room, lanes_of(room, table)), table)

    def test_every_list_of_texts(self):
        for room in FEW_LISTS:
            found = []
            for lanes in product(all_texts(room[1], room[2]), repeat=room[0]):
                if told_meetings(room, lanes):
                    self.refused(room, list(lanes))
                else:
                    found.append(table_of(room, list(lanes)))
                    self.assertEqual(lanes_of(room, found[-1]), list(lanes))
            self.assertEqual(sorted(found), all_tables(room))

    def test_lanes_that_meet(self):
        # At the first step, in the middle, at the last step, at two spots, all along.
        for lanes, shared in [
            (["drrrdd", "rddrdr"], [(1, 3)]),
            (["rddrrd", "drrddr"], [(2, 2)]),
            (["rrdddr", "ddrrrd"], [(3, 1)]),
            (["dddrrr", "rrrddd"], [(1, 3), (3, 1)]),
            (["drrddr", "rrrddd"], [(1, 3), (2, 3), (3, 3), (3, 2), (3, 1)]),
            (["drrddr", "rrddrd"], [(1, 3), (2, 3), (3, 1)]),
        ]:
            room = (2, 3, 3)
            self.assertEqual([spot for k, m, spot in told_meetings(room, lanes) if k == 0], shared)
            self.refused(room, lanes)

    def test_only_the_lanes_at_one_end_of_the_list_meet(self):
        room = (3, 2, 2)
        self.assertEqual(table_of(room, ["rrdd", "rdrd", "ddrr"]), [[2, 2], [2, 1], [0, 0]])
        self.refused(room, ["rdrd", "rrdd", "ddrr"])
        self.refused(room, ["rrdd", "ddrr", "rdrd"])
        self.refused(room, ["ddrr", "rdrd", "rrdd"])

    def test_a_text_more_or_fewer(self):
        for room in SMALL_ROOMS + [WIDEST]:
            lanes = lanes_of(room, filled(room, 1))
            self.refused(room, lanes + [lanes[-1]])
            self.refused(room, [lanes[0]] + lanes)
            self.refused(room, lanes + [""])
            self.refused(room, lanes[1:])
            self.refused(room, lanes[:-1])
            self.refused(room, [])

    def test_a_sign_more_or_fewer_or_another_one(self):
        for room in [(1, 1, 1), (1, 3, 2), (3, 1, 2), (3, 2, 1), (2, 2, 2), WIDEST]:
            lanes = lanes_of(room, filled(room, 1))
            for k, lane in enumerate(lanes):
                for at in range(len(lane)):
                    self.refused_instead(room, lanes, k, lane[:at] + lane[at + 1:])
                    for sign in ["x", "R", "D", " ", "l", "u", "\n", "", "rr", "dd"]:
                        self.refused_instead(room, lanes, k, lane[:at] + sign + lane[at + 1:])
                    for sign in ["r", "d", "x", " "]:
                        self.refused_instead(room, lanes, k, lane[:at] + sign + lane[at:])
                    other = "d" if lane[at] == "r" else "r"
                    self.refused_instead(room, lanes, k, lane[:at] + other + lane[at + 1:])

    def refused_instead(self, room, lanes, k, lane):
        self.refused(room, lanes[:k] + [lane] + lanes[k + 1:])

    def test_other_texts(self):
        for room in [(1, 1, 1), (2, 2, 2), WIDEST]:
            lanes = lanes_of(room, filled(room, 0))
            for k in range(room[0]):
                for lane in ["", " ", lanes[k] + "\n", " " + lanes[k], lanes[k] + "x", lanes[k].upper(),
                             lanes[k] * 2, "x" * len(lanes[k]), "r" * len(lanes[k]), "d" * len(lanes[k])]:
                    self.refused_instead(room, lanes, k, lane)
            self.refused(room, [""] * room[0])

    def test_what_is_no_list_of_texts(self):
        for lanes in [None, 5, "rd", ("rd",), {"rd": True}, [None], [5], [["r", "d"]], [("r", "d")], [b"rd"]]:
            self.refused((1, 1, 1), lanes)

    def test_lanes_of_another_room(self):
        self.refused((2, 3, 2), lanes_of((2, 2, 3), filled((2, 2, 3), 0)))
        self.refused((2, 3, 2), lanes_of((3, 3, 2), filled((3, 3, 2), 0)))


class InterfaceTest(unittest.TestCase):
    def test_functions_are_defined_in_their_file(self):
        for name in ["lanes_of", "spots", "table_of"]:
            with self.subTest(name=name):
                self.assertEqual(getattr(lanes_file, name).__module__, "boxheap.lanes")

    def test_arguments_have_their_names(self):
        self.assertEqual(lanes_of(room=(1, 2, 1), table=[[1, 0]]), ["rdr"])
        self.assertEqual(spots(room=(1, 2, 1), number=0, lane="r"), [(0, 1), (1, 1)])
        self.assertEqual(table_of(room=(1, 2, 1), lanes=["rdr"]), [[1, 0]])

    def test_kinds_of_what_is_handed_out(self):
        self.assertIs(type(lanes_of((2, 2, 2), [[1, 1], [0, 0]])), list)
        self.assertIs(type(lanes_of((2, 2, 2), [[1, 1], [0, 0]])[0]), str)
        told = spots((2, 2, 2), 1, "rd")
        self.assertEqual([type(told), type(told[0]), type(told[0][0])], [list, tuple, int])
        table = table_of((1, 1, 1), ["rd"])
        self.assertEqual([type(table), type(table[0]), type(table[0][0])], [list, list, int])


if __name__ == "__main__":
    unittest.main()
