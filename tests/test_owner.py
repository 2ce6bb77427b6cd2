"""[1]: nothing handed in is changed, and what is handed out is the asker's own."""

import copy
import unittest

from boxheap.errors import HeapError
from boxheap.families import sign, turned
from boxheap.floors import floor_of, ground, heap_of
from boxheap.lanes import lanes_of, spots, table_of
from boxheap.tables import after, boxes, climb, put, puts, take, takes
from tests.reference import SMALL_ROOMS, WIDEST, all_families, all_tables, filled, wide_tables


def calls(room, table):
    """List all calls that hand something out for the table."""
    found = [lambda: boxes(room, table), lambda: puts(room, table), lambda: takes(room, table),
             lambda: climb(room, table), lambda: after(room, table), lambda: lanes_of(room, table),
             lambda: floor_of(room, table)]
    found += [lambda place=place: put(room, table, place) for place in puts(room, table)]
    found += [lambda place=place: take(room, table, place) for place in takes(room, table)]
    return found


def spoil(value):
    """Change a list that was handed out, and the lists in it, wherever it can be changed."""
    if isinstance(value, (list, tuple)):
        for item in value:
            spoil(item)
    if isinstance(value, list):
        value.append("spoilt")
        value[0] = "spoilt"


class OwnerTest(unittest.TestCase):
    def check_table(self, room, table):
        for call in calls(room, table):
            self.check_call(call, table)

    def check_call(self, call, *given):
        before = copy.deepcopy(given)
        first = call()
        self.assertEqual(given, before)
        told = copy.deepcopy(first)
        spoil(first)
        self.assertEqual(given, before)
        self.assertEqual(call(), told)

    def test_small_rooms(self):
        for room in SMALL_ROOMS[:10]:
            for table in all_tables(room):
                self.check_table(room, table)

    def test_the_greatest_room(self):
        for table in wide_tables():
            self.check_table(WIDEST, table)

    def test_lanes_and_tiles(self):
        for room in SMALL_ROOMS[:10] + [WIDEST]:
            for table in (wide_tables() if room == WIDEST else all_tables(room)):
                lanes, tiles = lanes_of(room, table), floor_of(room, table)[::-1]
                self.check_call(lambda: table_of(room, lanes), lanes)
                self.check_call(lambda: heap_of(room, tiles), tiles)
                for k, lane in enumerate(lanes):
                    self.check_call(lambda: spots(room, k, lane), lanes)

    def test_families(self):
        for room in [(2, 1, 1), (2, 2, 2), (3, 2, 2), (4, 1, 2)]:
            for ends, lanes in all_families(room):
                self.check_call(lambda: turned(room, ends, lanes), ends, lanes)
                self.check_call(lambda: sign(ends), ends)

    def test_the_ground(self):
        for room in SMALL_ROOMS + [WIDEST]:
            self.check_call(lambda: ground(room), room)

    def test_a_turned_family_of_lanes_is_not_the_one_handed_in(self):
        # Nothing is exchanged within the lists that are handed in, even where the turn undoes itself.
        ends, lanes = [0, 1], ["dr", "rd"]
        new_ends, new_lanes = turned((2, 1, 1), ends, lanes)
        self.assertIsNot(new_ends, ends)
        self.assertIsNot(new_lanes, lanes)
        self.assertEqual(turned((2, 1, 1), new_ends, new_lanes), (ends, lanes))
        self.assertEqual((new_ends, new_lanes), ([1, 0], ["dd", "rr"]))

    def test_rows_that_are_handed_out_are_lists_of_their_own(self):
        room = (3, 2, 2)
        for table in [filled(room, 0), [[2, 1], [1, 1], [1, 0]]]:
            for told in [after(room, table), put(room, table, puts(room, table)[0]),
                         table_of(room, lanes_of(room, table)), heap_of(room, floor_of(room, table))]:
                self.assertEqual(len({id(row) for row in told}), 3)

    def test_one_row_that_stands_several_times_counts_as_so_many(self):
        row = [1, 0]
        table = [row, row, row]
        self.assertEqual(put((3, 2, 2), table, (0, 1)), [[1, 1], [1, 0], [1, 0]])
        self.assertEqual(take((3, 2, 2), table, (2, 0)), [[1, 0], [1, 0], [0, 0]])
        self.assertEqual(after((3, 2, 2), table), [[1, 1], [0, 0], [0, 0]])
        self.assertEqual(table, [[1, 0], [1, 0], [1, 0]])

    def test_what_is_refused_is_not_changed(self):
        table = [[1, 0], [2, None]]
        for call in [boxes, puts, takes, climb, after, lanes_of, floor_of]:
            with self.assertRaises(HeapError):
                call((2, 2, 2), table)
        for change in [put, take]:
            with self.assertRaises(HeapError):
                change((2, 2, 2), table, (0, 0))
        self.assertEqual(table, [[1, 0], [2, None]])
        table = [[1, 1], [1, 1]]
        for change in [put, take]:
            with self.assertRaises(HeapError):
                change((2, 2, 2), table, (0, 1))
        self.assertEqual(table, [[1, 1], [1, 1]])
        ends, lanes, tiles = [1, 0], ["rd", "x"], [("top", 0, 0), None, ("front", 0, 0)]
        for call in [lambda: turned((2, 1, 1), ends, lanes), lambda: table_of((2, 1, 1), lanes),
                     lambda: heap_of((2, 1, 1), tiles)]:
            with self.assertRaises(HeapError):
                call()
        self.assertEqual((ends, lanes, tiles), ([1, 0], ["rd", "x"], [("top", 0, 0), None, ("front", 0, 0)]))


if __name__ == "__main__":
    unittest.main()
