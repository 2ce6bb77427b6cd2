"""[2], [3] and the head of "The interface": what is no room and what is no table of one."""

import unittest

from boxheap.errors import NoRoom, NoTable
from boxheap.families import count, turned
from boxheap.floors import floor_of, ground, heap_of
from boxheap.lanes import lanes_of, spots, table_of
from boxheap.tables import after, boxes, climb, put, puts, take, takes
from tests.reference import NO_NUMBERS, NO_ROOMS, SMALL_ROOMS, WIDEST, all_tables, filled, wide_tables

# What is given a table.
CALLS = {
    "boxes": boxes,
    "puts": puts,
    "takes": takes,
    "put": lambda room, table: put(room, table, (0, 0)),
    "take": lambda room, table: take(room, table, (0, 0)),
    "climb": climb,
    "after": after,
    "lanes_of": lanes_of,
    "floor_of": floor_of,
}
# What is given a room and no table; the second one is handed in where something else is told.
ROOM_CALLS = {
    "spots": lambda room, told: spots(room, 0, "rd"),
    "table_of": table_of,
    "turned": lambda room, told: turned(room, [0, 1], told),
    "turned with wrong ends": lambda room, told: turned(room, [7, 7, 7], told),
    "count": lambda room, told: count(room),
    "ground": lambda room, told: ground(room),
    "heap_of": heap_of,
}
ROOM = (2, 3, 4)
# Every table here is a list, but none of them is a table of ROOM.
NO_TABLES = [
    [], [[]], [[], []],
    [[2, 1, 0]],
    [[2, 1, 0], [1, 1, 0], [0, 0, 0]],
    [[2, 1], [1, 1]],
    [[2, 1, 0], [1, 1]],
    [[2, 1], [1, 1, 0]],
    [[2, 1, 0, 0], [1, 1, 0, 0]],
    [[2, 1, 0], [1, 1, 0, 0]],
    [[2, 1, 0], []],
    [[2, 1], [1, 1], [0, 0]],
    [[5, 1, 0], [1, 1, 0]],
    [[5, 5, 5], [5, 5, 5]],
    [[10 ** 5000, 1, 0], [1, 1, 0]],
    [[2, 1, -1], [1, 1, -1]],
    [[2, 1, 0], [1, 1, -1]],
    [[-1, -1, -1], [-1, -1, -1]],
    [[1, 2, 0], [1, 1, 0]],
    [[2, 1, 2], [1, 1, 0]],
    [[2, 2, 2], [1, 2, 0]],
    [[2, 2, 2], [1, 0, 1]],
    [[2, 1, 0], [3, 1, 0]],
    [[2, 1, 0], [2, 2, 0]],
    [[2, 1, 0], [1, 1, 1]],
    [[0, 0, 0], [1, 0, 0]],
    [[0, 0, 1], [0, 0, 0]],
]


class RefusalsTest(unittest.TestCase):
    def refused(self, error, room, table):
        # A number of some thousand digits can't be written out, so nothing is shown here.
        for name, call in CALLS.items():
            with self.subTest(name=name), self.assertRaises(error):
                call(room, table)

    def refused_as_no_room(self, room, told):
        for name, call in ROOM_CALLS.items():
            with self.subTest(name=name), self.assertRaises(NoRoom):
                call(room, told)

    def let(self, room, table):
        for name in ["boxes", "puts", "takes", "climb", "after", "lanes_of", "floor_of"]:
            with self.subTest(name=name, room=room):
                CALLS[name](room, table)

    def test_rooms_at_the_limits_are_let(self):
        for room in [(1, 1, 1), (6, 1, 1), (1, 20, 1), (1, 1, 20), WIDEST]:
            self.let(room, filled(room, 0))
            self.let(room, filled(room, room[2]))
            self.assertEqual(len(spots(room, 0, "rd")), 3)
            self.assertGreater(count(room), 1)
            self.assertEqual(heap_of(room, floor_of(room, filled(room, 0))), filled(room, 0))
            self.assertEqual(table_of(room, lanes_of(room, filled(room, 0))), filled(room, 0))
            self.assertIsNone(turned(room, list(range(room[0])), lanes_of(room, filled(room, 1))))

    def test_what_is_no_room_is_refused(self):
        for room in NO_ROOMS:
            self.refused(NoRoom, room, [[1, 0], [0, 0]])

    def test_the_limit_is_refused_with_a_fitting_table_too(self):
        for room in [(7, 1, 1), (1, 21, 1), (1, 1, 21)]:
            self.refused(NoRoom, room, filled(room, 0))
        for room in [(0, 1, 1), (1, 0, 1), (1, 1, 0)]:
            self.refused(NoRoom, room, filled(room, 0))
        self.refused(NoRoom, (True, True, True), [[0]])

    def test_what_is_no_room_is_refused_where_no_table_is_given(self):
        for room in NO_ROOMS:
            for told in [[], ["rrdd", "ddrr"], ["rd"], ["x", 5], [("top", 0, 0)], [("roof", 0, 0)], [None], None]:
                self.refused_as_no_room(room, told)

    def test_the_limit_is_refused_with_fitting_lanes_and_tiles_too(self):
        for room in [(7, 1, 1), (1, 21, 1), (1, 1, 21)]:
            self.refused_as_no_room(room, ["r" * room[1] + "d" * room[2]] * room[0])
        for room in [(True, 1, 1), (1, True, 1), (1, 1, True)]:
            self.refused_as_no_room(room, ["rd"])
            self.refused_as_no_room(room, floor_of((1, 1, 1), [[0]]))
        for room in [(1, 0, 1), (1, 1, 0)]:
            self.refused_as_no_room(room, ["r" * room[1] + "d" * room[2]])
        self.refused_as_no_room((0, 1, 1), [])

    def test_a_wrong_room_is_refused_before_other_wrong_things(self):
        for number, lane in [(9, "rd"), (0, "x"), (-1, "")]:
            with self.subTest(number=number), self.assertRaises(NoRoom):
                spots((2, 2, 0), number, lane)
        for ends, lanes in [([0, 0], ["rd"]), ([], []), ([0, 1], ["rd", 5]), ([None, 1], [None])]:
            with self.subTest(ends=ends), self.assertRaises(NoRoom):
                turned((2, 2, 0), ends, lanes)

    def test_a_wrong_room_is_refused_before_a_wrong_table(self):
        for room in NO_ROOMS:
            for table in [[], [[None]], [[9, 9], [9, 9]]]:
                self.refused(NoRoom, room, table)

    def test_a_wrong_room_is_refused_before_a_wrong_place(self):
        for call in [put, take]:
            with self.subTest(call=call), self.assertRaises(NoRoom):
                call((2, 2, 0), [[0, 0], [0, 0]], (9, 9))

    def test_a_wrong_table_is_refused_before_a_wrong_place(self):
        for call in [put, take]:
            with self.subTest(call=call), self.assertRaises(NoTable):
                call((2, 2, 1), [[0, 0], [1, 0]], (9, 9))

    def test_tables_of_small_rooms_are_let(self):
        for room in SMALL_ROOMS[:8]:
            for table in all_tables(room):
                self.let(room, table)

    def test_tables_of_the_greatest_room_are_let(self):
        for table in wide_tables():
            self.let(WIDEST, table)

    def test_what_is_no_table_is_refused(self):
        for table in NO_TABLES:
            self.refused(NoTable, ROOM, table)

    def test_what_is_no_number_in_a_table_is_refused(self):
        for wrong in NO_NUMBERS:
            for place in [(i, j) for i in range(2) for j in range(3)]:
                for number in [0, 1]:
                    table = filled(ROOM, number)
                    table[place[0]][place[1]] = wrong
                    self.refused(NoTable, ROOM, table)
            self.refused(NoTable, ROOM, [[wrong] * 3, [wrong] * 3])

    def test_a_table_of_another_room_is_refused(self):
        self.refused(NoTable, (3, 2, 4), filled((2, 3, 4), 0))
        self.refused(NoTable, (2, 3, 3), filled((2, 3, 4), 4))

    def test_a_number_too_great_at_the_far_end_is_refused(self):
        table = filled(WIDEST, 3)
        table[5][19] = 4
        self.refused(NoTable, WIDEST, table)
        table = filled(WIDEST, 20)
        table[0][0] = 21
        self.refused(NoTable, WIDEST, table)


if __name__ == "__main__":
    unittest.main()
