"""max_seated, max_seated_if_free and max_seated_if_gap, by examples and by their errors."""

import unittest

from tests.helper import FAR, NOT_THERE, OUT_OF_RANGE, ask, hall, last, looked_at


class MaxSeated(unittest.TestCase):
    def test_without_groups(self):
        self.assertEqual(last(hall(1, 1, 0, []) + [("max_seated",)]), [0, 0])
        self.assertEqual(last(hall(3, 10, 2, []) + [("max_seated",)]), [0, 0])
        self.assertEqual(last(hall(1, 1, 0, [], [(0, 0)]) + [("max_seated",)]), [0, 0])

    def test_without_free_seats(self):
        self.assertEqual(last(hall(1, 1, 0, [1], [(0, 0)]) + [("max_seated",)]), [0, 0])
        full = [("create", 3, 2, 1)] + [("take_seats", row, 0, 2) for row in range(3)]
        self.assertEqual(last(full + [("add_group", 1), ("add_group", 6), ("max_seated",)]), [0, 0])

    def test_where_no_group_fits(self):
        self.assertEqual(last(hall(1, 3, 0, [4, 5, 6]) + [("max_seated",)]), [0, 0])
        self.assertEqual(last(hall(3, 5, 0, [2, 2], [(row, seat) for row in range(3) for seat in (1, 3)])
                              + [("max_seated",)]), [0, 0])

    def test_where_all_fit(self):
        self.assertEqual(last(hall(3, 10, 2, [4, 4, 4, 4, 6]) + [("max_seated",)]), [22, 31])
        self.assertEqual(last(hall(3, 10, 0, [6, 6, 6, 4, 4]) + [("max_seated",)]), [26, 31])
        self.assertEqual(last(hall(1, 6, 2, [6]) + [("max_seated",)]), [6, 1])

    def test_the_most_people_and_not_the_most_groups(self):
        self.assertEqual(last(hall(1, 6, 1, [2, 2, 6]) + [("max_seated",)]), [6, 4])
        self.assertEqual(last(hall(1, 6, 0, [1, 6, 1, 1, 2]) + [("max_seated",)]), [6, 2])
        self.assertEqual(last(hall(1, 6, 1, [1, 1, 1, 4]) + [("max_seated",)]), [5, 9])

    def test_the_smallest_bit_mask_of_several(self):
        self.assertEqual(last(hall(1, 4, 0, [2, 2, 2]) + [("max_seated",)]), [4, 3])
        self.assertEqual(last(hall(1, 2, 0, [2, 2, 2, 2, 2]) + [("max_seated",)]), [2, 1])
        # Groups 0 and 1 (mask 3) come before group 2 (mask 4), and group 0 (mask 1) before 1 and 2 (mask 6).
        self.assertEqual(last(hall(1, 3, 0, [1, 2, 3]) + [("max_seated",)]), [3, 3])
        self.assertEqual(last(hall(1, 3, 0, [3, 1, 2]) + [("max_seated",)]), [3, 1])
        # 4 + 3 (mask 3) and 1 + 6 (mask 12), then 4 + 3 (mask 12) and 5 + 2 (mask 18).
        self.assertEqual(last(hall(1, 7, 0, [4, 3, 1, 6]) + [("max_seated",)]), [7, 3])
        self.assertEqual(last(hall(1, 7, 0, [6, 5, 4, 3, 2]) + [("max_seated",)]), [7, 12])
        # Masks 12 (5 + 5) and 19 (2 + 2 + 6) fill the row: 12 is smaller, though 19 has the first groups.
        self.assertEqual(last(hall(1, 10, 0, [2, 2, 5, 5, 6]) + [("max_seated",)]), [10, 12])

    def test_the_gap_counts(self):
        for gap, told in [(0, [3, 3]), (1, [3, 4]), (2, [3, 4])]:
            self.assertEqual(last(hall(1, 3, gap, [1, 2, 3]) + [("max_seated",)]), told)
        for gap, told in [(0, [9, 7]), (1, [8, 6]), (2, [8, 6])]:
            self.assertEqual(last(hall(1, 10, gap, [1, 4, 4]) + [("max_seated",)]), told)
        for gap, told in [(0, [8, 5]), (1, [7, 12]), (2, [6, 3])]:
            self.assertEqual(last(hall(1, 8, gap, [2, 4, 6, 1]) + [("max_seated",)]), told)

    def test_groups_are_spread_over_runs(self):
        self.assertEqual(last(hall(2, 3, 0, [4, 3, 2, 1]) + [("max_seated",)]), [6, 14])
        self.assertEqual(last(hall(1, 9, 2, [3, 2, 4], [(0, 4)]) + [("max_seated",)]), [7, 5])
        # A greedy choice of 5 and 4 would leave no row for the second 4 and the 3.
        self.assertEqual(last(hall(2, 8, 0, [5, 4, 4, 3]) + [("max_seated",)]), [16, 15])

    def test_the_set_can_be_seated_by_the_plan(self):
        calls = hall(2, 7, 1, [4, 3, 3, 5, 2], [(0, 5)]) + [("max_seated",)]
        people, mask = last(calls)
        self.assertEqual(last(calls + [("can_seat", mask)]), [1])
        self.assertEqual(last(calls + [("seat_groups", mask)]), [people])

    def test_after_groups_have_gone(self):
        calls = hall(1, 6, 0, [6, 4, 2]) + [("max_seated",), ("remove_group", 0), ("max_seated",)]
        calls += [("seat_groups", 1), ("max_seated",), ("seat_groups", 1), ("max_seated",)]
        self.assertEqual(ask(calls)[4::2], [[6, 1], [6, 3], [2, 1], [0, 0]])

    def test_it_changes_nothing(self):
        for before in [hall(2, 6, 1, [3, 2, 6], [(0, 2)]), hall(2, 6, 2, [], [(1, 5)])]:
            self.assertEqual(looked_at(before + [("max_seated",)] * 2, 2, 6), looked_at(before, 2, 6))


class MaxSeatedIfFree(unittest.TestCase):
    def test_a_taken_seat(self):
        calls = hall(1, 6, 0, [3, 2, 6], [(0, 2), (0, 3)])
        self.assertEqual(last(calls + [("max_seated",)]), [2, 2])
        self.assertEqual(last(calls + [("max_seated_if_free", 0, 2)]), [5])
        self.assertEqual(last(hall(1, 1, 0, [1], [(0, 0)]) + [("max_seated_if_free", 0, 0)]), [1])
        self.assertEqual(last(hall(2, 3, 0, [3, 3], [(1, 2)]) + [("max_seated_if_free", 1, 2)]), [6])

    def test_a_seat_that_joins_two_runs(self):
        calls = hall(1, 7, 0, [6, 1], [(0, 3)])
        self.assertEqual(last(calls + [("max_seated",)]), [1, 2])
        self.assertEqual(last(calls + [("max_seated_if_free", 0, 3)]), [7])
        # The two runs had no gap between them; the joined one has to keep it.
        calls = hall(1, 5, 2, [2, 2], [(0, 2)])
        self.assertEqual(last(calls + [("max_seated",)]), [4, 3])
        self.assertEqual(last(calls + [("max_seated_if_free", 0, 2)]), [2])

    def test_a_seat_that_is_free_already(self):
        calls = hall(2, 6, 1, [4, 3, 5], [(0, 3), (1, 1)])
        self.assertEqual(last(calls + [("max_seated",)]), [7, 3])
        for row, seat in [(0, 0), (0, 2), (0, 4), (0, 5), (1, 0), (1, 2), (1, 5)]:
            self.assertEqual(last(calls + [("max_seated_if_free", row, seat)]), [7])

    def test_each_seat_of_each_row(self):
        taken = [(row, seat) for row in (0, 1, 2) for seat in (2, 5)]
        calls = hall(3, 8, 0, [5, 5, 2], taken)
        # A seat freed makes a run of five of two: from its row's start (seat 2) or to its end (seat 5).
        told = ask(calls + [("max_seated_if_free", row, seat) for row in range(3) for seat in range(8)])[len(calls):]
        self.assertEqual(told, [[2], [2], [7], [2], [2], [7], [2], [2]] * 3)

    def test_without_groups(self):
        self.assertEqual(last(hall(1, 3, 0, [], [(0, 1)]) + [("max_seated_if_free", 0, 1)]), [0])

    def test_where_no_group_fits(self):
        self.assertEqual(last(hall(1, 5, 0, [6], [(0, 1)]) + [("max_seated_if_free", 0, 1)]), [0])

    def test_a_seat_that_is_not_there(self):
        calls = hall(2, 4, 0, [1], [(0, 1), (1, 0)])
        for row, seat in [(2, 0), (2, 3), (0, 4), (1, 4), (0, 5), (2, 4), (3, 0)]:
            self.assertEqual(last(calls + [("max_seated_if_free", row, seat)]), NOT_THERE)
        for number in FAR:
            for row, seat in [(number, 0), (0, number), (number, number)]:
                self.assertEqual(last(hall(3, 10, 0, [1]) + [("max_seated_if_free", row, seat)]), NOT_THERE)

    def test_it_leaves_seats_groups_and_gap_as_they_were(self):
        before = hall(2, 6, 1, [3, 2, 6], [(0, 2), (1, 4)])
        for row, seat in [(0, 2), (1, 4), (0, 0), (1, 5), (2, 0), (0, 6)]:
            asked = before + [("max_seated_if_free", row, seat)]
            self.assertEqual(looked_at(asked, 2, 6), looked_at(before, 2, 6))
            self.assertEqual(last(asked + [("max_seated",)]), last(before + [("max_seated",)]))
            self.assertEqual(last(asked + [("list_taken_seats",)]), [2, 2, 10])
            self.assertEqual(last(asked + [("take_seat", 0, 2)]), [-17])


class MaxSeatedIfGap(unittest.TestCase):
    def test_a_smaller_the_same_and_a_greater_gap(self):
        # One row of 8: 1 + 2 + 5 side by side, 1 + 6 with one seat between, 1 + 5 with two.
        for gap in range(3):
            calls = hall(1, 8, gap, [5, 1, 2, 6])
            told = ask(calls + [("max_seated_if_gap", other) for other in range(3)])
            self.assertEqual(told[-3:], [[8], [7], [6]])
            self.assertEqual(last(calls + [("max_seated",)])[0], told[-3 + gap][0])

    def test_where_the_gap_makes_no_difference(self):
        for gap in range(3):
            self.assertEqual(last(hall(3, 6, 1, [6, 5, 4]) + [("max_seated_if_gap", gap)]), [15])
            self.assertEqual(last(hall(1, 3, 1, [4]) + [("max_seated_if_gap", gap)]), [0])
            self.assertEqual(last(hall(1, 3, 1, []) + [("max_seated_if_gap", gap)]), [0])
            self.assertEqual(last(hall(1, 1, 1, [1], [(0, 0)]) + [("max_seated_if_gap", gap)]), [0])

    def test_a_gap_outside_its_range(self):
        for gap in (3, 4) + FAR:
            self.assertEqual(last(hall(3, 10, 0, [1, 1]) + [("max_seated_if_gap", gap)]), OUT_OF_RANGE)

    def test_it_leaves_seats_groups_and_gap_as_they_were(self):
        for gap in range(3):
            before = hall(2, 6, gap, [3, 2, 6], [(0, 2), (1, 4)])
            for other in (0, 1, 2, 3, FAR[-1]):
                asked = before + [("max_seated_if_gap", other)]
                self.assertEqual(looked_at(asked, 2, 6), looked_at(before, 2, 6))
                self.assertEqual(last(asked + [("get_state",)]), [2, 6, gap, 2, 3])
                self.assertEqual(last(asked + [("max_seated",)]), last(before + [("max_seated",)]))


if __name__ == "__main__":
    unittest.main()
