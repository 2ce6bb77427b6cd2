"""[1]: nothing handed in is changed, and what is handed out is the asker's own."""

import copy
import unittest

from boxheap.errors import HeapError
from boxheap.tables import after, boxes, climb, put, puts, take, takes
from tests.reference import SMALL_ROOMS, WIDEST, all_tables, filled, wide_tables


def calls(room, table):
    """List all calls that hand something out for the table."""
    found = [lambda: boxes(room, table), lambda: puts(room, table), lambda: takes(room, table),
             lambda: climb(room, table), lambda: after(room, table)]
    found += [lambda place=place: put(room, table, place) for place in puts(room, table)]
    found += [lambda place=place: take(room, table, place) for place in takes(room, table)]
    return found


def spoil(value):
    """Change a list that was handed out, and the lists in it, wherever it can be changed."""
    if isinstance(value, list):
        for item in value:
            spoil(item)
        value.append("spoilt")
        value[0] = "spoilt"


class OwnerTest(unittest.TestCase):
    def check_table(self, room, table):
        before = copy.deepcopy(table)
        for call in calls(room, table):
            first = call()
            self.assertEqual(table, before)
            told = copy.deepcopy(first)
            spoil(first)
            self.assertEqual(table, before)
            self.assertEqual(call(), told)

    def test_small_rooms(self):
        for room in SMALL_ROOMS[:10]:
            for table in all_tables(room):
                self.check_table(room, table)

    def test_the_greatest_room(self):
        for table in wide_tables():
            self.check_table(WIDEST, table)

    def test_rows_that_are_handed_out_are_lists_of_their_own(self):
        room = (3, 2, 2)
        for table in [filled(room, 0), [[2, 1], [1, 1], [1, 0]]]:
            for told in [after(room, table), put(room, table, puts(room, table)[0])]:
                self.assertEqual(len({id(row) for row in told}), 3)

    def test_one_row_that_stands_several_times_counts_as_so_many(self):
        row = [1, 0]
        table = [row, row, row]
        self.assertEqual(put((3, 2, 2), table, (0, 1)), [[1, 1], [1, 0], [1, 0]])
        self.assertEqual(take((3, 2, 2), table, (2, 0)), [[1, 0], [1, 0], [0, 0]])
        self.assertEqual(after((3, 2, 2), table), [[1, 1], [0, 0], [0, 0]])
        self.assertEqual(table, [[1, 0], [1, 0], [1, 0]])

    def test_what_is_refused_is_not_changed(self):
        table = [[1, 0], [2, None]]
        for call in [boxes, puts, takes, climb, after]:
            with self.assertRaises(HeapError):
                call((2, 2, 2), table)
        for change in [put, take]:
            with self.assertRaises(HeapError):
                change((2, 2, 2), table, (0, 0))
        self.assertEqual(table, [[1, 0], [2, None]])
        table = [[1, 1], [1, 1]]
        for change in [put, take]:
            with self.assertRaises(HeapError):
                change((2, 2, 2), table, (0, 1))
        self.assertEqual(table, [[1, 1], [1, 1]])


if __name__ == "__main__":
    unittest.main()
