"""add_group, remove_group and set_gap."""

import itertools
import unittest

from tests.helper import FAR, NOT_THERE, OUT_OF_RANGE, TOO_MANY_GROUPS, ask, last, looked_at

HALL = ("create", 2, 6, 1)


def adding(sizes):
    return [("add_group", size) for size in sizes]


class AddGroup(unittest.TestCase):
    def test_groups_are_numbered_from_0_as_they_come(self):
        self.assertEqual(ask([HALL] + adding([3, 1, 6, 2, 2]))[1:], [[0], [1], [2], [3], [4]])

    def test_every_size(self):
        for size in range(1, 7):
            told = ask([HALL, ("add_group", size), ("seat_groups", 1), ("free_runs",)])
            self.assertEqual(told[1:3], [[0], [size]])
            self.assertEqual(told[3], [2, 0, size, 6 - size, 1, 0, 6] if size < 6 else [1, 1, 0, 6])

    def test_a_group_may_be_longer_than_the_rows(self):
        self.assertEqual(ask([("create", 1, 1, 0), ("add_group", 6), ("can_seat", 1)])[1:], [[0], [0]])

    def test_a_waiting_group_takes_no_seat(self):
        self.assertEqual(last([HALL] + adding([6, 6]) + [("free_runs",)]), [2, 0, 0, 6, 1, 0, 6])

    def test_a_size_outside_its_range(self):
        for size in (0, 7, 8, 10) + FAR:
            self.assertEqual(last([HALL, ("add_group", size)]), OUT_OF_RANGE)

    def test_a_sixth_group(self):
        calls = [HALL] + adding([1] * 5)
        for size in range(1, 7):
            self.assertEqual(last(calls + [("add_group", size)]), TOO_MANY_GROUPS)

    def test_the_range_is_checked_before_the_number_of_groups(self):
        calls = [HALL] + adding([1] * 5)
        for size in (0, 7) + FAR:
            self.assertEqual(last(calls + [("add_group", size)]), OUT_OF_RANGE)

    def test_there_is_room_again_when_one_has_gone(self):
        calls = [HALL] + adding([1] * 5)
        self.assertEqual(last(calls + [("remove_group", 2), ("add_group", 2)]), [4])
        self.assertEqual(last(calls + [("remove_group", 2), ("add_group", 2), ("add_group", 2)]), TOO_MANY_GROUPS)
        self.assertEqual(last(calls + [("seat_groups", 5), ("add_group", 2)]), [3])

    def test_errors_change_nothing(self):
        before = [HALL, ("take_seat", 0, 2)] + adding([3, 1, 6, 2, 2])
        for size in (0, 1, 6, 7):
            self.assertEqual(looked_at(before + [("add_group", size)], 2, 6), looked_at(before, 2, 6))


class RemoveGroup(unittest.TestCase):
    def test_it_returns_how_many_are_left(self):
        calls = [HALL] + adding([3, 1, 6, 2, 2])
        told = ask(calls + [("remove_group", 4), ("remove_group", 0), ("remove_group", 1), ("remove_group", 1)])
        self.assertEqual(told[6:], [[4], [3], [2], [1]])
        self.assertEqual(last([HALL, ("add_group", 1), ("remove_group", 0)]), [0])

    def test_later_groups_are_numbered_anew(self):
        sizes = [5, 1, 4, 2, 3]
        for group in range(5):
            left = sizes[:group] + sizes[group + 1:]
            self.assertEqual(
                looked_at([HALL] + adding(sizes) + [("remove_group", group)], 2, 6),
                looked_at([HALL] + adding(left), 2, 6),
            )

    def test_seats_stay_as_they_are(self):
        calls = [HALL, ("take_seat", 1, 1)] + adding([2, 2]) + [("remove_group", 0), ("free_runs",)]
        self.assertEqual(last(calls), [3, 0, 0, 6, 1, 0, 1, 1, 2, 4])

    def test_a_group_that_is_not_there(self):
        self.assertEqual(last([HALL, ("remove_group", 0)]), NOT_THERE)
        for count in range(6):
            for group in range(count, 7):
                self.assertEqual(last([HALL] + adding([2] * count) + [("remove_group", group)]), NOT_THERE)
        for group in FAR:
            self.assertEqual(last([HALL] + adding([2] * 5) + [("remove_group", group)]), NOT_THERE)

    def test_errors_change_nothing(self):
        before = [HALL, ("take_seat", 0, 2)] + adding([3, 1, 6])
        for group in (3, 4, 5) + FAR:
            self.assertEqual(looked_at(before + [("remove_group", group)], 2, 6), looked_at(before, 2, 6))


class SetGap(unittest.TestCase):
    def test_it_returns_the_previous_gap(self):
        for first, second, third in itertools.product(range(3), repeat=3):
            told = ask([("create", 1, 5, first), ("set_gap", second), ("set_gap", third), ("set_gap", 0)])
            self.assertEqual(told[1:], [[first], [second], [third]])

    def test_the_new_gap_counts(self):
        calls = [("create", 1, 8, 0)] + adding([2, 3])
        for gap, place in [(0, 2), (1, 3), (2, 4)]:
            self.assertEqual(last(calls + [("set_gap", gap), ("seating_plan", 3)]), [2, 0, 0, 0, place])
        for seats, gap, result in [(5, 0, 1), (5, 1, 0), (6, 1, 1), (6, 2, 0), (7, 2, 1)]:
            calls = [("create", 1, seats, 2 - gap)] + adding([2, 3]) + [("set_gap", gap), ("can_seat", 3)]
            self.assertEqual(last(calls), [result])

    def test_seats_and_groups_stay(self):
        before = [("create", 2, 6, 2), ("take_seat", 0, 2)] + adding([3, 1, 6])
        same = [("create", 2, 6, 1), ("take_seat", 0, 2)] + adding([3, 1, 6])
        self.assertEqual(looked_at(before + [("set_gap", 1)], 2, 6), looked_at(same, 2, 6))

    def test_a_gap_outside_its_range(self):
        for gap in (3, 4) + FAR:
            self.assertEqual(last([HALL, ("set_gap", gap)]), OUT_OF_RANGE)

    def test_errors_change_nothing(self):
        before = [HALL, ("take_seat", 0, 2)] + adding([3, 1, 6])
        for gap in (3,) + FAR:
            self.assertEqual(looked_at(before + [("set_gap", gap)], 2, 6), looked_at(before, 2, 6))


if __name__ == "__main__":
    unittest.main()
