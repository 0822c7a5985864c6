"""add_group, remove_group, set_gap, needed_seats and list_groups."""

import itertools
import unittest

from tests.helper import FAR, NOT_THERE, OUT_OF_RANGE, TOO_MANY_GROUPS, ask, hall, last, looked_at

HALL = ("create", 2, 6, 1)


def adding(sizes):
    return [("add_group", size) for size in sizes]


class AddGroup(unittest.TestCase):
    def test_groups_are_numbered_from_0_as_they_come(self):
        self.assertEqual(ask([HALL] + adding([3, 1, 6, 2, 2]))[1:], [[0], [1], [2], [3], [4]])

    def test_every_size(self):
        for size in range(1, 7):
            told = ask([HALL, ("add_group", size), ("seat_groups", 1), ("free_runs",)])
            self.assertEqual(told[1:3], [[0], [size]])
            self.assertEqual(told[3], [2, 0, size, 6 - size, 1, 0, 6] if size < 6 else [1, 1, 0, 6])

    def test_a_group_may_be_longer_than_the_rows(self):
        self.assertEqual(ask([("create", 1, 1, 0), ("add_group", 6), ("can_seat", 1)])[1:], [[0], [0]])

    def test_a_waiting_group_takes_no_seat(self):
        self.assertEqual(last([HALL] + adding([6, 6]) + [("free_runs",)]), [2, 0, 0, 6, 1, 0, 6])

    def test_a_size_outside_its_range(self):
        for size in (0, 7, 8, 10) + FAR:
            self.assertEqual(last([HALL, ("add_group", size)]), OUT_OF_RANGE)

    def test_a_sixth_group(self):
        calls = [HALL] + adding([1] * 5)
        for size in range(1, 7):
            self.assertEqual(last(calls + [("add_group", size)]), TOO_MANY_GROUPS)

    def test_the_range_is_checked_before_the_number_of_groups(self):
        calls = [HALL] + adding([1] * 5)
        for size in (0, 7) + FAR:
            self.assertEqual(last(calls + [("add_group", size)]), OUT_OF_RANGE)

    def test_there_is_room_again_when_one_has_gone(self):
        calls = [HALL] + adding([1] * 5)
        self.assertEqual(last(calls + [("remove_group", 2), ("add_group", 2)]), [4])
        self.assertEqual(last(calls + [("remove_group", 2), ("add_group", 2), ("add_group", 2)]), TOO_MANY_GROUPS)
        self.assertEqual(last(calls + [("seat_groups", 5), ("add_group", 2)]), [3])

    def test_errors_change_nothing(self):
        before = [HALL, ("take_seat", 0, 2)] + adding([3, 1, 6, 2, 2])
        for size in (0, 1, 6, 7):
            self.assertEqual(looked_at(before + [("add_group", size)], 2, 6), looked_at(before, 2, 6))


class RemoveGroup(unittest.TestCase):
    def test_it_returns_how_many_are_left(self):
        calls = [HALL] + adding([3, 1, 6, 2, 2])
        told = ask(calls + [("remove_group", 4), ("remove_group", 0), ("remove_group", 1), ("remove_group", 1)])
        self.assertEqual(told[6:], [[4], [3], [2], [1]])
        self.assertEqual(last([HALL, ("add_group", 1), ("remove_group", 0)]), [0])

    def test_later_groups_are_numbered_anew(self):
        sizes = [5, 1, 4, 2, 3]
        for group in range(5):
            left = sizes[:group] + sizes[group + 1:]
            self.assertEqual(
                looked_at([HALL] + adding(sizes) + [("remove_group", group)], 2, 6),
                looked_at([HALL] + adding(left), 2, 6),
            )

    def test_seats_stay_as_they_are(self):
        calls = [HALL, ("take_seat", 1, 1)] + adding([2, 2]) + [("remove_group", 0), ("free_runs",)]
        self.assertEqual(last(calls), [3, 0, 0, 6, 1, 0, 1, 1, 2, 4])

    def test_a_group_that_is_not_there(self):
        self.assertEqual(last([HALL, ("remove_group", 0)]), NOT_THERE)
        for count in range(6):
            for group in range(count, 7):
                self.assertEqual(last([HALL] + adding([2] * count) + [("remove_group", group)]), NOT_THERE)
        for group in FAR:
            self.assertEqual(last([HALL] + adding([2] * 5) + [("remove_group", group)]), NOT_THERE)

    def test_errors_change_nothing(self):
        before = [HALL, ("take_seat", 0, 2)] + adding([3, 1, 6])
        for group in (3, 4, 5) + FAR:
            self.assertEqual(looked_at(before + [("remove_group", group)], 2, 6), looked_at(before, 2, 6))


class SetGap(unittest.TestCase):
    def test_it_returns_the_previous_gap(self):
        for first, second, third in itertools.product(range(3), repeat=3):
            told = ask([("create", 1, 5, first), ("set_gap", second), ("set_gap", third), ("set_gap", 0)])
            self.assertEqual(told[1:], [[first], [second], [third]])

    def test_the_new_gap_counts(self):
        calls = [("create", 1, 8, 0)] + adding([2, 3])
        for gap, place in [(0, 2), (1, 3), (2, 4)]:
            self.assertEqual(last(calls + [("set_gap", gap), ("seating_plan", 3)]), [2, 0, 0, 0, place])
        for seats, gap, result in [(5, 0, 1), (5, 1, 0), (6, 1, 1), (6, 2, 0), (7, 2, 1)]:
            calls = [("create", 1, seats, 2 - gap)] + adding([2, 3]) + [("set_gap", gap), ("can_seat", 3)]
            self.assertEqual(last(calls), [result])

    def test_seats_and_groups_stay(self):
        before = [("create", 2, 6, 2), ("take_seat", 0, 2)] + adding([3, 1, 6])
        same = [("create", 2, 6, 1), ("take_seat", 0, 2)] + adding([3, 1, 6])
        self.assertEqual(looked_at(before + [("set_gap", 1)], 2, 6), looked_at(same, 2, 6))

    def test_a_gap_outside_its_range(self):
        for gap in (3, 4) + FAR:
            self.assertEqual(last([HALL, ("set_gap", gap)]), OUT_OF_RANGE)

    def test_errors_change_nothing(self):
        before = [HALL, ("take_seat", 0, 2)] + adding([3, 1, 6])
        for gap in (3,) + FAR:
            self.assertEqual(looked_at(before + [("set_gap", gap)], 2, 6), looked_at(before, 2, 6))


class NeededSeats(unittest.TestCase):
    def needed(self, gap, sizes, mask):
        return last(hall(3, 10, gap, sizes) + [("needed_seats", mask)])

    def test_the_empty_set(self):
        for gap in range(3):
            self.assertEqual(self.needed(gap, [], 0), [0])
            self.assertEqual(self.needed(gap, [6], 0), [0])
            self.assertEqual(self.needed(gap, [1, 2, 3, 4, 5], 0), [0])

    def test_one_group_needs_no_gap(self):
        for gap in range(3):
            for size in range(1, 7):
                self.assertEqual(self.needed(gap, [size], 1), [size])
            for group, size in enumerate([5, 1, 4, 2, 3]):
                self.assertEqual(self.needed(gap, [5, 1, 4, 2, 3], 1 << group), [size])

    def test_several_groups_with_a_gap_between_two(self):
        for gap, two, three, five in [(0, 8, 9, 19), (1, 9, 11, 23), (2, 10, 13, 27)]:
            sizes = [3, 5, 1, 6, 4]
            self.assertEqual(self.needed(gap, sizes, 3), [two])
            self.assertEqual(self.needed(gap, sizes, 7), [three])
            self.assertEqual(self.needed(gap, sizes, 31), [five])
        self.assertEqual(self.needed(1, [3, 5, 1, 6, 4], 17), [8])
        self.assertEqual(self.needed(2, [3, 5, 1, 6, 4], 26), [19])

    def test_every_set(self):
        sizes = [2, 6, 1, 3, 5]
        for gap in range(3):
            told = ask(hall(3, 10, gap, sizes) + [("needed_seats", mask) for mask in range(32)])[-32:]
            for mask, answer in enumerate(told):
                groups = [size for group, size in enumerate(sizes) if mask >> group & 1]
                self.assertEqual(answer, [sum(groups) + gap * len(groups[1:])], (gap, mask))

    def test_it_may_be_more_than_there_are_seats(self):
        self.assertEqual(self.needed(2, [6] * 5, 31), [38])
        self.assertEqual(last(hall(1, 1, 2, [6, 6], [(0, 0)]) + [("needed_seats", 3)]), [14])

    def test_the_gap_is_the_one_that_was_set(self):
        calls = hall(1, 7, 1, [2, 3])
        told = ask(calls + [call for gap in (2, 0, 1) for call in [("set_gap", gap), ("needed_seats", 3)]])
        self.assertEqual(told[4::2], [[7], [5], [6]])

    def test_a_set_with_a_group_that_is_not_there(self):
        for count in range(6):
            for mask in (1 << count, (1 << count) + 1, 32, 33, 64) + FAR[1:]:
                self.assertEqual(self.needed(1, [1] * count, mask), OUT_OF_RANGE, (count, mask))

    def test_it_changes_nothing(self):
        before = [HALL, ("take_seat", 0, 2)] + adding([3, 1, 6])
        for mask in (0, 3, 7, 8, FAR[-1]):
            self.assertEqual(looked_at(before + [("needed_seats", mask)] * 2, 2, 6), looked_at(before, 2, 6))


class ListGroups(unittest.TestCase):
    def test_none(self):
        self.assertEqual(last([HALL, ("list_groups",)]), [0])
        self.assertEqual(last([HALL, ("add_group", 4), ("remove_group", 0), ("list_groups",)]), [0])

    def test_sizes_in_the_order_in_which_they_were_added(self):
        sizes = [3, 1, 6, 2, 2]
        for count in range(6):
            self.assertEqual(last([HALL] + adding(sizes[:count]) + [("list_groups",)]), [count] + sizes[:count])

    def test_after_groups_have_gone(self):
        calls = [HALL] + adding([5, 1, 4, 2, 3])
        self.assertEqual(last(calls + [("remove_group", 1), ("list_groups",)]), [4, 5, 4, 2, 3])
        self.assertEqual(last(calls + [("remove_group", 4), ("list_groups",)]), [4, 5, 1, 4, 2])
        self.assertEqual(last(calls + [("seat_groups", 10), ("list_groups",)]), [3, 5, 4, 3])
        self.assertEqual(last(calls + [("seat_groups", 9), ("add_group", 6), ("list_groups",)]), [4, 1, 4, 3, 6])

    def test_after_errors(self):
        calls = [HALL] + adding([6, 6, 6])
        for call in [("add_group", 7), ("add_group", 0), ("remove_group", 3), ("seat_groups", 7), ("seat_groups", 8)]:
            self.assertEqual(last(calls + [call, ("list_groups",)]), [3, 6, 6, 6])

    def test_it_changes_nothing(self):
        before = [HALL, ("take_seat", 0, 2)] + adding([3, 1, 6])
        self.assertEqual(looked_at(before + [("list_groups",)] * 2, 2, 6), looked_at(before, 2, 6))


if __name__ == "__main__":
    unittest.main()
