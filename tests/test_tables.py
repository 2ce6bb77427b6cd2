"""[4], [5], [6] and boxes: what the program tells of tables."""

import unittest

from boxheap import tables
from boxheap.errors import NoPlace
from boxheap.tables import after, boxes, climb, put, puts, take, takes
from tests.reference import SMALL_ROOMS, WIDEST, all_cases, all_tables, filled, fitting_places, with_more


def places_around(room):
    """List all places of the ground and those around it, also far beyond it."""
    rows = list(range(-room[0] - 1, room[0] + 2)) + [-10 ** 30, 10 ** 30]
    columns = list(range(-room[1] - 1, room[1] + 2)) + [-10 ** 30, 10 ** 30]
    return [(row, column) for row in rows for column in columns]


class BoxesTest(unittest.TestCase):
    def test_some_tables(self):
        self.assertEqual(boxes((1, 1, 1), [[0]]), 0)
        self.assertEqual(boxes((1, 1, 1), [[1]]), 1)
        self.assertEqual(boxes((2, 3, 4), [[4, 2, 1], [3, 0, 0]]), 10)
        self.assertEqual(boxes(WIDEST, filled(WIDEST, 0)), 0)
        self.assertEqual(boxes(WIDEST, filled(WIDEST, 20)), 2400)

    def test_all_cases(self):
        for room, table in all_cases():
            self.assertEqual(boxes(room, table), sum(map(sum, table)))


class ChangesTest(unittest.TestCase):
    def test_the_least_room(self):
        room = (1, 1, 1)
        self.assertEqual(puts(room, [[0]]), [(0, 0)])
        self.assertEqual(takes(room, [[0]]), [])
        self.assertEqual(puts(room, [[1]]), [])
        self.assertEqual(takes(room, [[1]]), [(0, 0)])
        self.assertEqual(put(room, [[0]], (0, 0)), [[1]])
        self.assertEqual(take(room, [[1]], (0, 0)), [[0]])

    def test_a_told_table(self):
        room, table = (3, 3, 3), [[3, 2, 2], [3, 1, 0], [1, 1, 0]]
        self.assertEqual(puts(room, table), [(0, 1), (1, 1), (1, 2), (2, 0)])
        self.assertEqual(takes(room, table), [(0, 2), (1, 0), (2, 1)])
        self.assertEqual(put(room, table, (1, 2)), [[3, 2, 2], [3, 1, 1], [1, 1, 0]])
        self.assertEqual(take(room, table, (2, 1)), [[3, 2, 2], [3, 1, 0], [1, 0, 0]])

    def test_the_corners_of_the_greatest_room(self):
        self.assertEqual(puts(WIDEST, filled(WIDEST, 0)), [(0, 0)])
        self.assertEqual(takes(WIDEST, filled(WIDEST, 0)), [])
        self.assertEqual(puts(WIDEST, filled(WIDEST, 20)), [])
        self.assertEqual(takes(WIDEST, filled(WIDEST, 20)), [(5, 19)])
        self.assertEqual(puts(WIDEST, filled(WIDEST, 19)), [(0, 0)])
        self.assertEqual(takes(WIDEST, filled(WIDEST, 1)), [(5, 19)])

    def test_places_of_all_cases(self):
        for room, table in all_cases():
            with self.subTest(room=room, table=table):
                self.assertEqual(puts(room, table), fitting_places(room, table, 1))
                self.assertEqual(takes(room, table), fitting_places(room, table, -1))

    def test_put_and_take_on_every_place_and_around_the_ground(self):
        for room, table in all_cases():
            self.check_changes(room, table, put, 1)
            self.check_changes(room, table, take, -1)

    def check_changes(self, room, table, change, more):
        fitting = fitting_places(room, table, more)
        for place in places_around(room):
            if place in fitting:
                self.assertEqual(change(room, table, place), with_more(table, place, more))
            else:
                with self.subTest(room=room, table=table, place=place), self.assertRaises(NoPlace):
                    change(room, table, place)

    def test_true_and_false_tell_no_place(self):
        room, table = (2, 2, 2), [[1, 1], [1, 0]]
        self.assertEqual(puts(room, table), [(0, 0), (1, 1)])
        for place in [(False, False), (False, 0), (0, False), (True, True), (True, 1), (1, True)]:
            with self.subTest(place=place), self.assertRaises(NoPlace):
                put(room, table, place)

    def test_take_undoes_put(self):
        for room, table in all_cases():
            for place in puts(room, table):
                self.assertEqual(take(room, put(room, table, place), place), table)


class ClimbTest(unittest.TestCase):
    def test_a_told_table(self):
        told = [
            (0, 0), (0, 1), (0, 2), (1, 0), (1, 1),
            (0, 0), (0, 1), (1, 0),
            (0, 0), (0, 1),
            (0, 0),
        ]
        self.assertEqual(climb((2, 3, 4), [[4, 3, 1], [2, 1, 0]]), told)

    def test_empty_and_full_tables(self):
        self.assertEqual(climb((1, 1, 1), [[0]]), [])
        self.assertEqual(climb((1, 1, 1), [[1]]), [(0, 0)])
        self.assertEqual(climb(WIDEST, filled(WIDEST, 0)), [])
        level = [(row, column) for row in range(6) for column in range(20)]
        self.assertEqual(climb(WIDEST, filled(WIDEST, 20)), level * 20)

    def test_levels_rows_and_columns_in_their_order(self):
        for room, table in all_cases():
            told = []
            left = [list(row) for row in table]
            while any(map(any, left)):
                for i, row in enumerate(left):
                    told += [(i, j) for j, number in enumerate(row) if number]
                left = [[max(0, number - 1) for number in row] for row in left]
            self.assertEqual(climb(room, table), told)

    def test_put_one_by_one_the_places_give_the_table(self):
        for room, table in all_cases():
            heap = filled(room, 0)
            for place in climb(room, table):
                heap = put(room, heap, place)
            self.assertEqual(heap, table)


class AfterTest(unittest.TestCase):
    def test_the_least_room(self):
        self.assertEqual(after((1, 1, 1), [[0]]), [[1]])
        self.assertIsNone(after((1, 1, 1), [[1]]))

    def test_through_all_tables_of_small_rooms(self):
        for room in SMALL_ROOMS:
            with self.subTest(room=room):
                found = []
                table = filled(room, 0)
                while table is not None and len(found) < 2000:
                    found.append(table)
                    table = after(room, table)
                self.assertEqual(found, all_tables(room))
                self.assertEqual(found[-1], filled(room, room[2]))

    def test_in_the_greatest_room(self):
        noughts, one, full = [0] * 20, [1] + [0] * 19, [20] * 20
        almost = [20] * 19 + [19]
        self.assertEqual(after(WIDEST, [noughts] * 6), [one] + [noughts] * 5)
        self.assertEqual(after(WIDEST, [one] + [noughts] * 5), [one, one] + [noughts] * 4)
        self.assertEqual(after(WIDEST, [one] * 6), [[1, 1] + [0] * 18] + [noughts] * 5)
        self.assertEqual(after(WIDEST, [full] * 4 + [almost] * 2), [full] * 5 + [noughts])
        self.assertEqual(after(WIDEST, [full] * 5 + [noughts]), [full] * 5 + [one])
        self.assertEqual(after(WIDEST, [full] * 5 + [almost]), [full] * 6)
        self.assertIsNone(after(WIDEST, [full] * 6))


class InterfaceTest(unittest.TestCase):
    def test_functions_are_defined_in_their_file(self):
        for name in ["boxes", "puts", "takes", "put", "take", "climb", "after"]:
            with self.subTest(name=name):
                self.assertEqual(getattr(tables, name).__module__, "boxheap.tables")

    def test_arguments_have_their_names(self):
        room, table, place = (2, 2, 1), [[1, 0], [0, 0]], (0, 1)
        self.assertEqual(boxes(room=room, table=table), 1)
        self.assertEqual(puts(room=room, table=table), [(0, 1), (1, 0)])
        self.assertEqual(takes(room=room, table=table), [(0, 0)])
        self.assertEqual(put(room=room, table=table, place=place), [[1, 1], [0, 0]])
        self.assertEqual(take(room=room, table=table, place=(0, 0)), [[0, 0], [0, 0]])
        self.assertEqual(climb(room=room, table=table), [(0, 0)])
        self.assertEqual(after(room=room, table=table), [[1, 0], [1, 0]])

    def test_kinds_of_what_is_handed_out(self):
        for told in [puts((2, 2, 2), [[1, 0], [1, 0]]), takes((2, 2, 2), [[1, 0], [1, 0]]),
                     climb((2, 2, 2), [[1, 0], [1, 0]])]:
            self.assertIs(type(told), list)
            for place in told:
                self.assertEqual([type(place), type(place[0]), type(place[1])], [tuple, int, int])


if __name__ == "__main__":
    unittest.main()
