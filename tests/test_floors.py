"""[15], [16], [17], [18]: floors of tables, what their tiles cover, and the tables of floors."""

import random
import unittest
from itertools import product

from boxheap import floors
from boxheap.errors import NoFloor
from boxheap.floors import covered, floor_of, ground, heap_of
from boxheap.lanes import lanes_of, table_of
from boxheap.tables import put, puts, take
from tests.reference import (
    SMALL_ROOMS, WIDEST, all_cases, all_coverings, all_tables, filled, told_covered, told_floor, told_ground,
    wide_tables,
)

KINDS = ["top", "front", "side"]
FAR = 10 ** 5000


class FloorOfTest(unittest.TestCase):
    def test_the_least_room(self):
        self.assertEqual(floor_of((1, 1, 1), [[0]]), [("front", 0, 0), ("side", 0, 0), ("top", 0, 0)])
        self.assertEqual(floor_of((1, 1, 1), [[1]]), [("front", 1, 0), ("side", 0, 1), ("top", -1, -1)])

    def test_a_told_table(self):
        self.assertEqual(floor_of((2, 3, 2), [[2, 1, 0], [1, 1, 0]]), [
            ("front", -1, 0), ("front", -1, 1), ("front", 0, -1), ("front", 0, 2), ("front", 2, 0), ("front", 2, 1),
            ("side", -1, 0), ("side", 0, -1), ("side", 0, 2), ("side", 1, 2),
            ("top", -2, -2), ("top", -1, 0), ("top", 0, -1), ("top", 0, 0), ("top", 0, 2), ("top", 1, 2),
        ])

    def test_the_empty_table(self):
        room = (2, 3, 2)
        tops = [("top", i, j) for i in range(2) for j in range(3)]
        fronts = [("front", -1, -1), ("front", -1, 0), ("front", -1, 1), ("front", 0, 0), ("front", 0, 1),
                  ("front", 0, 2)]
        sides = [("side", -1, -1), ("side", 0, -1), ("side", 0, 0), ("side", 1, 0)]
        self.assertEqual(floor_of(room, filled(room, 0)), fronts + sides + tops)

    def test_the_last_table(self):
        room = (2, 3, 2)
        tops = [("top", i - 2, j - 2) for i in range(2) for j in range(3)]
        fronts = [("front", 1, -1), ("front", 1, 0), ("front", 1, 1), ("front", 2, 0), ("front", 2, 1),
                  ("front", 2, 2)]
        sides = [("side", -1, 2), ("side", 0, 2), ("side", 0, 3), ("side", 1, 3)]
        self.assertEqual(floor_of(room, filled(room, 2)), fronts + sides + tops)

    def test_all_cases(self):
        for room, table in all_cases():
            with self.subTest(room=room, table=table):
                self.assertEqual(floor_of(room, table), sorted(told_floor(room, table)))

    def test_every_floor_covers_the_ground_each_triangle_once(self):
        for room, table in all_cases():
            triangles = [triangle for tile in floor_of(room, table) for triangle in covered(tile)]
            self.assertEqual(sorted(triangles), ground(room))


class CoveredTest(unittest.TestCase):
    def test_told_tiles(self):
        self.assertEqual(covered(("top", 0, 0)), (("low", 0, 0), ("up", 0, 0)))
        self.assertEqual(covered(("front", 0, 0)), (("low", -1, -1), ("up", -1, 0)))
        self.assertEqual(covered(("side", 0, 0)), (("low", 0, -1), ("up", -1, -1)))
        self.assertEqual(covered(("front", 5, -2)), (("low", 4, -3), ("up", 4, -2)))
        self.assertEqual(covered(("side", -7, 3)), (("low", -7, 2), ("up", -8, 2)))

    def test_every_whole_number(self):
        numbers = list(range(-30, 31)) + [-FAR, FAR]
        for kind, u, v in product(KINDS, numbers, numbers):
            if covered((kind, u, v)) != told_covered((kind, u, v)):
                self.fail("another answer than the document's")

    def test_each_triangle_is_covered_by_one_tile_of_each_kind(self):
        near = list(product(KINDS, range(-2, 3), range(-2, 3)))
        for triangle in [("low", 0, 0), ("up", 0, 0)]:
            self.assertEqual(sorted(tile[0] for tile in near if triangle in covered(tile)), sorted(KINDS))


class GroundTest(unittest.TestCase):
    def test_the_least_room(self):
        self.assertEqual(ground((1, 1, 1)), [
            ("low", -1, -1), ("low", 0, -1), ("low", 0, 0), ("up", -1, -1), ("up", -1, 0), ("up", 0, 0),
        ])

    def test_a_row_of_two_columns(self):
        self.assertEqual(ground((1, 2, 1)), [
            ("low", -1, -1), ("low", -1, 0), ("low", 0, -1), ("low", 0, 0), ("low", 0, 1),
            ("up", -1, -1), ("up", -1, 0), ("up", -1, 1), ("up", 0, 0), ("up", 0, 1),
        ])

    def test_rooms(self):
        for room in SMALL_ROOMS + [WIDEST, (6, 1, 20), (1, 20, 20), (3, 7, 5)]:
            with self.subTest(room=room):
                self.assertEqual(ground(room), sorted(told_ground(room)))
                rows, columns, height = room
                self.assertEqual(len(ground(room)), 2 * (rows * columns + rows * height + columns * height))


class HeapOfTest(unittest.TestCase):
    def refused(self, room, tiles):
        # A number of some thousand digits can't be written out, so nothing is shown here.
        with self.assertRaises(NoFloor):
            heap_of(room, tiles)

    def test_the_least_room(self):
        self.assertEqual(heap_of((1, 1, 1), [("top", 0, 0), ("side", 0, 0), ("front", 0, 0)]), [[0]])
        self.assertEqual(heap_of((1, 1, 1), [("side", 0, 1), ("top", -1, -1), ("front", 1, 0)]), [[1]])

    def test_floors_lead_back_in_whatever_order(self):
        mixer = random.Random(7)
        for room, table in all_cases():
            tiles = floor_of(room, table)
            mixed = list(tiles)
            mixer.shuffle(mixed)
            for told in [tiles, tiles[::-1], mixed]:
                self.assertEqual(heap_of(room, told), table)

    def test_every_order_of_a_small_floor(self):
        room, table = (2, 2, 2), [[2, 1], [1, 0]]
        tiles = floor_of(room, table)
        for at, other in product(range(len(tiles)), repeat=2):
            moved = tiles[:at] + tiles[at + 1:]
            self.assertEqual(heap_of(room, moved[:other] + [tiles[at]] + moved[other:]), table)

    def test_every_covering_is_the_floor_of_one_table(self):
        for room in SMALL_ROOMS:
            coverings = all_coverings(frozenset(told_ground(room)))
            found = [heap_of(room, tiles) for tiles in coverings]
            self.assertEqual(sorted(found), all_tables(room))
            for tiles, table in zip(coverings, found):
                self.assertEqual(floor_of(room, table), sorted(tiles))

    def test_a_tile_left_out(self):
        for room, table in self.some_cases():
            tiles = floor_of(room, table)
            for at in range(len(tiles)):
                self.refused(room, tiles[:at] + tiles[at + 1:])
            self.refused(room, [])

    def test_a_tile_told_twice(self):
        for room, table in self.some_cases():
            tiles = floor_of(room, table)
            for tile in tiles:
                self.refused(room, tiles + [tile])
                self.refused(room, [tile] + tiles)
            self.refused(room, tiles + tiles)

    def test_a_tile_instead_of_another_one(self):
        for room, table in self.some_cases():
            tiles = floor_of(room, table)
            for at in range(len(tiles)):
                self.refused(room, tiles[:at] + [tiles[at - 1]] + tiles[at + 1:])

    def test_a_tile_of_another_kind(self):
        for room, table in self.some_cases():
            tiles = floor_of(room, table)
            for at, (kind, u, v) in enumerate(tiles):
                for other in KINDS + ["", "Top", "top ", "low", "up", "roof"]:
                    if other != kind:
                        self.refused(room, tiles[:at] + [(other, u, v)] + tiles[at + 1:])
            self.refused(room, tiles + [("roof", 0, 0)])

    def test_a_tile_beside_or_far_away(self):
        for room, table in self.some_cases():
            tiles = floor_of(room, table)
            for at, (kind, u, v) in enumerate(tiles):
                for more, further in list(product([-1, 0, 1], repeat=2)) + [(FAR, 0), (0, -FAR), (FAR, FAR)]:
                    if (more, further) != (0, 0):
                        self.refused(room, tiles[:at] + [(kind, u + more, v + further)] + tiles[at + 1:])
            for kind in KINDS:
                self.refused(room, tiles + [(kind, 1000, -1000)])
                self.refused(room, tiles + [(kind, FAR, -FAR)])
            self.refused(room, [(kind, u + 1, v + 1) for kind, u, v in tiles])

    def test_tiles_of_two_floors_together(self):
        room = (2, 2, 2)
        one, other = floor_of(room, [[1, 0], [0, 0]]), floor_of(room, [[1, 1], [1, 0]])
        self.refused(room, one + other)
        # Beside the boxes that one floor has more, the two are alike, so a part of each may fit.
        for at in range(1, len(one)):
            tiles = one[:at] + other[at:]
            if sorted(triangle for tile in tiles for triangle in covered(tile)) != ground(room):
                self.refused(room, tiles)

    def test_the_floor_of_another_room(self):
        for one, other in [((2, 3, 2), (3, 2, 2)), ((2, 2, 1), (2, 2, 2)), ((2, 2, 2), (2, 2, 1)),
                           ((1, 1, 1), (1, 2, 1)), (WIDEST, (6, 20, 19))]:
            self.refused(one, floor_of(other, filled(other, 0)))

    def test_what_is_no_list_of_tiles(self):
        tiles = floor_of((1, 1, 1), [[0]])
        for told in [None, 5, "top", tuple(tiles), {tile: True for tile in tiles}, [None], [5], tiles + [None]]:
            self.refused((1, 1, 1), told)
        for wrong in ["top", (), ("top",), ("top", 0), ("top", 0, 0, 0), ["top", 0, 0], (None, 0, 0), (["top"], 0, 0),
                      ("top", "0", 0), ("top", 0, None), ("top", False, 0), ("top", 0, False)]:
            self.refused((1, 1, 1), tiles[:2] + [wrong])

    def some_cases(self):
        found = [(room, table) for room in SMALL_ROOMS[:7] for table in all_tables(room)]
        return found + [((6, 5, 4), [[max(0, 4 - i - j) for j in range(5)] for i in range(6)])]


class ChangeTest(unittest.TestCase):
    def test_three_tiles_go_and_three_come_one_of_each_kind(self):
        for room, table in all_cases():
            tiles = floor_of(room, table)
            for place in puts(room, table):
                more = put(room, table, place)
                self.check_exchange(tiles, floor_of(room, more))
                self.check_exchange(floor_of(room, more), floor_of(room, take(room, more, place)))

    def check_exchange(self, tiles, others):
        gone, come = set(tiles) - set(others), set(others) - set(tiles)
        self.assertEqual(sorted(kind for kind, _, _ in gone), sorted(KINDS))
        self.assertEqual(sorted(kind for kind, _, _ in come), sorted(KINDS))


class WaysTest(unittest.TestCase):
    def test_each_way_of_telling_a_heap_leads_to_the_others_and_back(self):
        for room, table in all_cases():
            lanes = lanes_of(room, table)
            tiles = floor_of(room, table_of(room, lanes))
            self.assertEqual(tiles, floor_of(room, table))
            self.assertEqual(lanes_of(room, heap_of(room, tiles)), lanes)
            self.assertEqual(table_of(room, lanes), heap_of(room, tiles))


class InterfaceTest(unittest.TestCase):
    def test_functions_are_defined_in_their_file(self):
        for name in ["floor_of", "covered", "ground", "heap_of"]:
            with self.subTest(name=name):
                self.assertEqual(getattr(floors, name).__module__, "boxheap.floors")

    def test_arguments_have_their_names(self):
        room, tiles = (1, 1, 1), [("front", 0, 0), ("side", 0, 0), ("top", 0, 0)]
        self.assertEqual(floor_of(room=room, table=[[0]]), tiles)
        self.assertEqual(covered(tile=("top", 1, 2)), (("low", 1, 2), ("up", 1, 2)))
        self.assertEqual(len(ground(room=room)), 6)
        self.assertEqual(heap_of(room=room, tiles=tiles), [[0]])

    def test_kinds_of_what_is_handed_out(self):
        for told in [floor_of((2, 2, 2), [[1, 1], [1, 0]]), ground((2, 2, 2))]:
            self.assertIs(type(told), list)
            for item in told:
                self.assertEqual([type(item)] + [type(part) for part in item], [tuple, str, int, int])
        self.assertEqual([type(part) for part in covered(("side", 1, 1))], [tuple, tuple])
        self.assertIs(type(covered(("side", 1, 1))), tuple)
        table = heap_of((1, 1, 1), floor_of((1, 1, 1), [[1]]))
        self.assertEqual([type(table), type(table[0]), type(table[0][0])], [list, list, int])

    def test_floors_of_the_greatest_room_have_so_many_tiles(self):
        for table in wide_tables():
            self.assertEqual(len(floor_of(WIDEST, table)), 6 * 20 + 20 * 20 + 6 * 20)


if __name__ == "__main__":
    unittest.main()
