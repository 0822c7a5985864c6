"""can_seat, seating_plan and seat_groups, by examples and by their errors."""

import unittest

from tests.helper import FAR, NO_ROOM, OUT_OF_RANGE, ask, hall, last, looked_at, waiting_sizes


class CanSeat(unittest.TestCase):
    def test_the_empty_set_always(self):
        for calls in [
            hall(1, 1, 0, []),
            hall(1, 1, 0, [], [(0, 0)]),
            hall(1, 1, 2, [6, 6], [(0, 0)]),
            hall(3, 10, 2, [6, 6, 6, 6, 6]),
        ]:
            self.assertEqual(last(calls + [("can_seat", 0)]), [1])

    def test_one_group_in_one_row(self):
        for size in range(1, 7):
            for seats in range(1, 11):
                for gap in range(3):
                    result = [1] if size <= seats else [0]
                    self.assertEqual(last(hall(1, seats, gap, [size]) + [("can_seat", 1)]), result)

    def test_a_gap_stands_between_groups_alone(self):
        for gap in range(3):
            for sizes in [[1, 2], [3, 1, 2], [1, 1, 1, 1]]:
                seats = sum(sizes) + (len(sizes) - 1) * gap
                everyone = (1 << len(sizes)) - 1
                if seats <= 10:
                    self.assertEqual(last(hall(1, seats, gap, sizes) + [("can_seat", everyone)]), [1])
                    self.assertEqual(last(hall(1, seats - 1, gap, sizes) + [("can_seat", everyone)]), [0])

    def test_no_gap_is_needed_next_to_a_taken_seat(self):
        self.assertEqual(last(hall(1, 5, 2, [2, 2], [(0, 2)]) + [("can_seat", 3)]), [1])
        self.assertEqual(last(hall(1, 5, 2, [2, 2]) + [("can_seat", 3)]), [0])
        self.assertEqual(last(hall(1, 5, 1, [2, 2]) + [("can_seat", 3)]), [1])

    def test_a_group_sits_in_one_run(self):
        self.assertEqual(last(hall(1, 7, 0, [4], [(0, 3)]) + [("can_seat", 1)]), [0])
        self.assertEqual(last(hall(2, 3, 0, [4]) + [("can_seat", 1)]), [0])
        self.assertEqual(last(hall(3, 3, 0, [3, 3, 3]) + [("can_seat", 7)]), [1])

    def test_only_the_groups_of_the_set_count(self):
        calls = hall(1, 3, 0, [3, 2, 1, 3])
        seated = [mask for mask in range(16) if last(calls + [("can_seat", mask)]) == [1]]
        self.assertEqual(seated, [0, 1, 2, 4, 6, 8])

    def test_the_best_distribution_is_found_where_a_greedy_one_fails(self):
        # 5 + 3 and 4 + 4 fill both rows; 5 + 4 or 4 + 3 would spoil it.
        self.assertEqual(last(hall(2, 8, 0, [5, 4, 4, 3]) + [("can_seat", 15)]), [1])
        self.assertEqual(last(hall(2, 8, 0, [4, 3, 4, 5]) + [("can_seat", 15)]), [1])
        # Runs of 4, 6 and 6: the pairs 1 + 5 and 2 + 4 need the long ones.
        self.assertEqual(last(hall(3, 6, 0, [1, 5, 2, 4, 4], [(0, 4), (0, 5)]) + [("can_seat", 31)]), [1])
        self.assertEqual(last(hall(3, 6, 0, [1, 5, 2, 4, 5], [(0, 4), (0, 5)]) + [("can_seat", 31)]), [0])

    def test_the_greatest_hall(self):
        for gap, sizes, result in [
            (0, [6, 6, 6, 6, 6], 0),
            (0, [6, 6, 6, 4, 4], 1),
            (0, [6, 6, 6, 4, 5], 0),
            (1, [6, 6, 6, 3, 3], 1),
            (1, [6, 6, 6, 4, 3], 0),
            (2, [6, 6, 6, 2, 2], 1),
            (2, [6, 6, 6, 2, 3], 0),
            (2, [2, 2, 2, 6, 6], 1),
            (2, [4, 4, 4, 4, 6], 1),
            (2, [5, 5, 5, 5, 5], 0),
            (0, [5, 5, 5, 5, 5], 1),
        ]:
            self.assertEqual(last(hall(3, 10, gap, sizes) + [("can_seat", 31)]), [result], (gap, sizes))

    def test_a_full_hall_seats_nobody(self):
        calls = hall(1, 2, 0, [1, 1], [(0, 0), (0, 1)])
        self.assertEqual(ask(calls + [("can_seat", mask) for mask in range(4)])[5:], [[1], [0], [0], [0]])

    def test_a_set_with_a_group_that_is_not_there(self):
        for count in range(6):
            calls = hall(3, 10, 0, [1] * count)
            for mask in (1 << count, (1 << count) + 1, 32, 33, 64) + FAR[1:]:
                self.assertEqual(last(calls + [("can_seat", mask)]), OUT_OF_RANGE, (count, mask))
            self.assertEqual(last(calls + [("can_seat", (1 << count) - 1)]), [1])

    def test_it_changes_nothing(self):
        before = hall(2, 6, 1, [3, 2, 6], [(0, 2)])
        for mask in (0, 3, 7, 8, FAR[-1]):
            self.assertEqual(looked_at(before + [("can_seat", mask)], 2, 6), looked_at(before, 2, 6))


class SeatingPlan(unittest.TestCase):
    def test_the_empty_set(self):
        self.assertEqual(last(hall(1, 1, 0, []) + [("seating_plan", 0)]), [0])
        self.assertEqual(last(hall(1, 1, 0, [6], [(0, 0)]) + [("seating_plan", 0)]), [0])
        self.assertEqual(last(hall(3, 10, 2, [1, 1]) + [("seating_plan", 0)]), [0])

    def test_groups_sit_in_the_order_of_their_numbers_with_the_gap_between(self):
        for gap in range(3):
            told = last(hall(1, 10, gap, [2, 1, 3]) + [("seating_plan", 7)])
            self.assertEqual(told, [3, 0, 0, 0, 2 + gap, 0, 3 + 2 * gap])
            told = last(hall(1, 10, gap, [2, 1, 3]) + [("seating_plan", 5)])
            self.assertEqual(told, [2, 0, 0, 0, 2 + gap])

    def test_it_begins_with_the_first_seat_of_the_run(self):
        self.assertEqual(last(hall(1, 9, 2, [2, 3], [(0, 0)]) + [("seating_plan", 3)]), [2, 0, 1, 0, 5])
        self.assertEqual(last(hall(2, 4, 0, [2], [(0, 1), (0, 3), (1, 0)]) + [("seating_plan", 1)]), [1, 1, 1])

    def test_the_greatest_mask_goes_into_the_first_run(self):
        # Group 1 alone (mask 2) comes before group 0 alone (mask 1).
        self.assertEqual(last(hall(2, 3, 0, [3, 3]) + [("seating_plan", 3)]), [2, 1, 0, 0, 0])
        self.assertEqual(last(hall(3, 2, 1, [2, 2, 2]) + [("seating_plan", 7)]), [3, 2, 0, 1, 0, 0, 0])
        # Group 2 alone (mask 4) comes before groups 0 and 1 (mask 3), though it seats fewer people.
        self.assertEqual(last(hall(2, 4, 0, [2, 2, 1]) + [("seating_plan", 7)]), [3, 1, 0, 0, 0, 0, 2])
        self.assertEqual(last(hall(2, 4, 0, [2, 2, 3]) + [("seating_plan", 7)]), [3, 1, 0, 1, 2, 0, 0])

    def test_the_others_must_still_fit_into_later_runs(self):
        # Row 1 has room for one only, so group 1 can't have all of row 0.
        taken = [(1, 1), (1, 2), (1, 3)]
        self.assertEqual(last(hall(2, 4, 0, [3, 1], taken) + [("seating_plan", 3)]), [2, 0, 0, 0, 3])
        self.assertEqual(last(hall(2, 4, 1, [3, 1], taken) + [("seating_plan", 3)]), [2, 0, 0, 1, 0])
        self.assertEqual(last(hall(2, 8, 0, [5, 4, 4, 3]) + [("seating_plan", 15)]), [4, 0, 0, 1, 0, 1, 4, 0, 5])

    def test_a_run_may_stay_empty(self):
        taken = [(0, 2), (1, 0)]
        self.assertEqual(last(hall(2, 5, 0, [3], taken) + [("seating_plan", 1)]), [1, 1, 1])
        # Group 0 goes ahead to the first run that holds it, though a later one would be tighter.
        self.assertEqual(last(hall(2, 5, 0, [2], [(1, 2), (1, 3), (1, 4)]) + [("seating_plan", 1)]), [1, 0, 0])

    def test_several_runs_of_one_row(self):
        calls = hall(1, 10, 1, [2, 3, 1], [(0, 3)])
        self.assertEqual(last(calls + [("seating_plan", 7)]), [3, 0, 4, 0, 7, 0, 0])
        calls = hall(1, 10, 2, [1, 1, 1, 1, 1], [(0, 1), (0, 3), (0, 5)])
        self.assertEqual(last(calls + [("seating_plan", 31)]), [5, 0, 6, 0, 9, 0, 4, 0, 2, 0, 0])

    def test_the_order_of_the_answer_is_that_of_group_numbers(self):
        self.assertEqual(last(hall(3, 6, 0, [6, 5, 4]) + [("seating_plan", 7)]), [3, 2, 0, 1, 0, 0, 0])
        self.assertEqual(last(hall(3, 6, 0, [6, 5, 4]) + [("seating_plan", 5)]), [2, 1, 0, 0, 0])
        self.assertEqual(last(hall(3, 6, 0, [6, 5, 4]) + [("seating_plan", 2)]), [1, 0, 0])

    def test_the_greatest_hall(self):
        told = last(hall(3, 10, 2, [4, 4, 4, 4, 6]) + [("seating_plan", 31)])
        self.assertEqual(told, [5, 2, 0, 2, 6, 1, 0, 1, 6, 0, 0])
        told = last(hall(3, 10, 0, [6, 6, 6, 4, 4]) + [("seating_plan", 31)])
        self.assertEqual(told, [5, 2, 0, 1, 0, 0, 0, 1, 6, 0, 6])

    def test_a_set_that_cannot_be_seated(self):
        self.assertEqual(last(hall(1, 5, 0, [6]) + [("seating_plan", 1)]), NO_ROOM)
        self.assertEqual(last(hall(1, 5, 1, [2, 3]) + [("seating_plan", 3)]), NO_ROOM)
        self.assertEqual(last(hall(1, 5, 1, [2, 3]) + [("seating_plan", 2)]), [1, 0, 0])
        self.assertEqual(last(hall(1, 1, 0, [1], [(0, 0)]) + [("seating_plan", 1)]), NO_ROOM)
        self.assertEqual(last(hall(3, 10, 0, [6] * 5) + [("seating_plan", 31)]), NO_ROOM)

    def test_a_set_with_a_group_that_is_not_there(self):
        for count in range(6):
            # The groups don't fit either: the set is checked first.
            for calls in [hall(3, 10, 0, [1] * count), hall(1, 1, 0, [6] * count)]:
                for mask in (1 << count, (1 << count) + 1, 32, 33, 64) + FAR[1:]:
                    self.assertEqual(last(calls + [("seating_plan", mask)]), OUT_OF_RANGE, (count, mask))

    def test_it_changes_nothing(self):
        before = hall(2, 6, 1, [3, 2, 6], [(0, 2)])
        for mask in (0, 3, 7, 8, FAR[-1]):
            self.assertEqual(looked_at(before + [("seating_plan", mask)] * 2, 2, 6), looked_at(before, 2, 6))


class SeatGroups(unittest.TestCase):
    def test_it_returns_the_number_of_people(self):
        calls = hall(3, 10, 1, [6, 5, 1, 2, 3])
        sizes = [6, 5, 1, 2, 3]
        for mask in range(32):
            people = sum(size for group, size in enumerate(sizes) if mask >> group & 1)
            self.assertEqual(last(calls + [("seat_groups", mask)]), [people])

    def test_the_seats_of_the_plan_become_taken_and_those_of_gaps_stay_free(self):
        calls = hall(1, 10, 1, [2, 1, 3]) + [("seat_groups", 7), ("free_runs",)]
        self.assertEqual(last(calls), [3, 0, 2, 1, 0, 4, 1, 0, 8, 2])
        calls = hall(1, 10, 2, [2, 1, 3]) + [("seat_groups", 7), ("free_runs",)]
        self.assertEqual(last(calls), [2, 0, 2, 2, 0, 5, 2])
        calls = hall(1, 10, 0, [2, 1, 3]) + [("seat_groups", 7), ("free_runs",)]
        self.assertEqual(last(calls), [1, 0, 6, 4])
        calls = hall(2, 3, 0, [3, 2]) + [("seat_groups", 3), ("free_runs",)]
        self.assertEqual(last(calls), [1, 0, 2, 1])

    def test_the_others_are_renumbered_in_their_order(self):
        sizes = [1, 2, 3, 4, 5]
        for mask in range(1, 32):
            left = [size for group, size in enumerate(sizes) if not mask >> group & 1]
            calls = hall(3, 10, 0, sizes) + [("seat_groups", mask)]
            self.assertEqual(waiting_sizes(calls, 3, 10), left)
            self.assertEqual(last(calls + [("add_group", 1)]), [len(left)])

    def test_taken_seats_grow_by_the_number_of_people(self):
        for mask in range(16):
            calls = hall(2, 8, 1, [3, 2, 4, 1], [(0, 0), (1, 5)])
            told = ask(calls + [("seat_groups", mask), ("free_seat", 0, 0)])
            if told[-2] == NO_ROOM:
                self.assertEqual(told[-1], [1])
            else:
                self.assertEqual(told[-1], [1 + told[-2][0]])

    def test_the_empty_set_changes_nothing(self):
        before = hall(2, 6, 1, [3, 2, 6], [(0, 2)])
        self.assertEqual(last(before + [("seat_groups", 0)]), [0])
        self.assertEqual(looked_at(before + [("seat_groups", 0)], 2, 6), looked_at(before, 2, 6))
        self.assertEqual(last(hall(1, 1, 0, [], [(0, 0)]) + [("seat_groups", 0)]), [0])

    def test_the_gap_stays(self):
        for gap in range(3):
            self.assertEqual(last(hall(1, 6, gap, [1, 1]) + [("seat_groups", 3), ("set_gap", 0)]), [gap])

    def test_one_seating_after_another(self):
        # No gap is needed to those who sit already.
        calls = hall(1, 6, 2, [2, 2, 2])
        self.assertEqual(last(calls + [("can_seat", 7)]), [0])
        told = ask(calls + [("seat_groups", 1), ("seat_groups", 1), ("seat_groups", 1), ("free_runs",)])
        self.assertEqual(told[4:], [[2], [2], [2], [0]])

    def test_a_set_that_cannot_be_seated(self):
        self.assertEqual(last(hall(1, 5, 0, [6]) + [("seat_groups", 1)]), NO_ROOM)
        self.assertEqual(last(hall(1, 5, 1, [2, 3]) + [("seat_groups", 3)]), NO_ROOM)
        self.assertEqual(last(hall(1, 1, 0, [1], [(0, 0)]) + [("seat_groups", 1)]), NO_ROOM)
        self.assertEqual(last(hall(3, 10, 0, [6] * 5) + [("seat_groups", 31)]), NO_ROOM)

    def test_a_set_with_a_group_that_is_not_there(self):
        for count in range(6):
            # The groups don't fit either: the set is checked first.
            for calls in [hall(3, 10, 0, [1] * count), hall(1, 1, 0, [6] * count)]:
                for mask in (1 << count, (1 << count) + 1, 32, 33, 64) + FAR[1:]:
                    self.assertEqual(last(calls + [("seat_groups", mask)]), OUT_OF_RANGE, (count, mask))

    def test_a_seated_group_is_there_no_longer(self):
        calls = hall(1, 6, 0, [1, 1]) + [("seat_groups", 2)]
        self.assertEqual(last(calls + [("seat_groups", 2)]), OUT_OF_RANGE)
        self.assertEqual(last(calls + [("seat_groups", 1)]), [1])

    def test_errors_change_nothing(self):
        before = hall(2, 6, 1, [3, 2, 6], [(0, 2), (1, 1)])
        for mask in (4, 7, 8, 32) + FAR[1:]:
            self.assertIn(last(before + [("seat_groups", mask)]), (NO_ROOM, OUT_OF_RANGE))
            self.assertEqual(looked_at(before + [("seat_groups", mask)], 2, 6), looked_at(before, 2, 6))


if __name__ == "__main__":
    unittest.main()
