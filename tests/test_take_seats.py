"""take_seats, list_taken_seats and get_state."""

import itertools
import unittest

from tests.helper import ALREADY_SO, FAR, GREATEST, NOT_THERE, OUT_OF_RANGE, ask, hall, last, looked_at, runs_of


class TakeSeats(unittest.TestCase):
    def test_the_seats_become_taken_and_no_others(self):
        told = ask([("create", 2, 6, 1), ("take_seats", 1, 2, 3), ("free_runs",), ("list_taken_seats",)])
        self.assertEqual(told[1:], [[3], [3, 0, 0, 6, 1, 0, 2, 1, 5, 1], [3, 8, 9, 10]])
        told = ask([("create", 2, 6, 1), ("take_seats", 0, 0, 2), ("take_seats", 0, 4, 1), ("list_taken_seats",)])
        self.assertEqual(told[1:], [[2], [3], [3, 0, 1, 4]])

    def test_one_seat_is_as_take_seat(self):
        for row, seat in itertools.product(range(2), range(6)):
            before = [("create", 2, 6, 1), ("add_group", 2)]
            self.assertEqual(last(before + [("take_seats", row, seat, 1)]), [1])
            self.assertEqual(
                looked_at(before + [("take_seats", row, seat, 1)], 2, 6),
                looked_at(before + [("take_seat", row, seat)], 2, 6),
            )

    def test_every_place_in_rows_of_every_length(self):
        for seats in range(1, 11):
            for first in range(seats):
                for count in range(1, seats - first + 1):
                    told = ask([("create", 3, seats, 0), ("take_seats", 1, first, count), ("list_taken_seats",)])
                    self.assertEqual(told[1], [count])
                    self.assertEqual(told[2], [count] + list(range(seats + first, seats + first + count)))

    def test_all_taken_seats_are_counted(self):
        calls = [("create", 3, 10, 0), ("take_seats", 2, 0, 10), ("take_seat", 0, 4), ("take_seats", 0, 5, 5)]
        calls += [("take_seats", 0, 0, 4), ("take_seats", 1, 0, 10)]
        self.assertEqual(ask(calls)[1:], [[10], [11], [16], [20], [30]])

    def test_up_to_the_end_of_the_row_one_beyond_and_far_beyond(self):
        calls = [("create", 2, 5, 0)]
        for first in range(5):
            self.assertEqual(last(calls + [("take_seats", 0, first, 5 - first)]), [5 - first])
            for beyond in (1, 2, 5, 6):
                self.assertEqual(last(calls + [("take_seats", 0, first, 5 - first + beyond)]), OUT_OF_RANGE)
            for count in FAR + (GREATEST - first, GREATEST - first + 1):
                self.assertEqual(last(calls + [("take_seats", 1, first, count)]), OUT_OF_RANGE)

    def test_no_seat_at_all(self):
        for seat in range(3):
            self.assertEqual(last([("create", 1, 3, 0), ("take_seats", 0, seat, 0)]), OUT_OF_RANGE)
            self.assertEqual(last([("create", 1, 3, 0), ("take_seats", 0, 0, 3), ("take_seats", 0, seat, 0)]), [-22])

    def test_a_first_seat_that_is_not_there(self):
        for row, first in [(0, 4), (1, 4), (2, 0), (2, 3), (2, 4), (3, 1)]:
            # With a count that would do, with none, and with too many: the first seat is checked first.
            for count in (1, 0, 5, GREATEST):
                self.assertEqual(last([("create", 2, 4, 0), ("take_seats", row, first, count)]), NOT_THERE)
        for number in FAR:
            for row, first in [(number, 0), (0, number), (number, number)]:
                for count in (0, 1, number):
                    self.assertEqual(last([("create", 3, 10, 0), ("take_seats", row, first, count)]), NOT_THERE)

    def test_over_a_taken_seat(self):
        for taken in range(2, 5):
            calls = [("create", 2, 7, 0), ("take_seat", 1, taken)]
            self.assertEqual(last(calls + [("take_seats", 1, 2, 3)]), ALREADY_SO)
            self.assertEqual(last(calls + [("take_seats", 0, 2, 3)]), [4])
        for taken in (0, 1, 5, 6):
            calls = [("create", 2, 7, 0), ("take_seat", 1, taken)]
            self.assertEqual(last(calls + [("take_seats", 1, 2, 3)]), [4])

    def test_over_seats_of_a_group_or_a_party(self):
        calls = [("create", 1, 8, 1), ("add_group", 2), ("add_group", 1), ("seat_groups", 3), ("place_party", 3)]
        # The group of two has 0-1, that of one has 3, the party has 4-6.
        for first, count in [(0, 1), (1, 2), (2, 2), (4, 1), (6, 2)]:
            self.assertEqual(last(calls + [("take_seats", 0, first, count)]), ALREADY_SO)
        self.assertEqual(last(calls + [("take_seats", 0, 2, 1)]), [7])

    def test_the_range_is_checked_before_the_taken_seats(self):
        calls = [("create", 1, 4, 0), ("take_seats", 0, 1, 3)]
        for first, count in [(0, 5), (1, 4), (2, 0), (3, 2), (3, GREATEST), (1, 0)]:
            self.assertEqual(last(calls + [("take_seats", 0, first, count)]), OUT_OF_RANGE)
        self.assertEqual(last(calls + [("take_seats", 0, 0, 4)]), ALREADY_SO)

    def test_errors_change_nothing(self):
        before = [("create", 2, 6, 1), ("add_group", 3), ("take_seat", 0, 3)]
        seen = looked_at(before, 2, 6)
        refused = [(0, 0, 4), (0, 2, 2), (0, 3, 1), (0, 3, 3), (0, 0, 0), (0, 0, 7), (0, 4, 3), (0, 6, 1), (2, 0, 1)]
        refused += [(1, 5, 2), (1, 0, GREATEST), (0, GREATEST, 1), (GREATEST, 0, 1)]
        for row, first, count in refused:
            call = ("take_seats", row, first, count)
            self.assertIn(last(before + [call]), (NOT_THERE, OUT_OF_RANGE, ALREADY_SO))
            self.assertEqual(looked_at(before + [call], 2, 6), seen, call)

    def test_groups_and_gap_stay(self):
        calls = hall(2, 6, 2, [3, 1]) + [("take_seats", 0, 1, 2)]
        self.assertEqual(ask(calls + [("list_groups",), ("get_state",)])[-2:], [[2, 3, 1], [2, 6, 2, 2, 2]])

    def test_they_can_be_freed_one_by_one(self):
        calls = [("create", 1, 6, 0), ("take_seats", 0, 1, 4), ("free_seat", 0, 2), ("take_seats", 0, 2, 1)]
        self.assertEqual(ask(calls)[1:], [[4], [3], [4]])


class ListTakenSeats(unittest.TestCase):
    def test_none(self):
        self.assertEqual(last([("create", 3, 10, 0), ("list_taken_seats",)]), [0])
        self.assertEqual(last([("create", 1, 1, 0), ("list_taken_seats",)]), [0])

    def test_every_seat_has_its_index(self):
        for rows, seats_per_row in [(1, 1), (1, 10), (2, 7), (3, 1), (3, 4), (3, 10)]:
            for row, seat in itertools.product(range(rows), range(seats_per_row)):
                told = last(hall(rows, seats_per_row, 0, [], [(row, seat)]) + [("list_taken_seats",)])
                self.assertEqual(told, [1, row * seats_per_row + seat])

    def test_all_seats(self):
        calls = [("create", 3, 10, 0)] + [("take_seats", row, 0, 10) for row in (1, 2, 0)]
        self.assertEqual(last(calls + [("list_taken_seats",)]), [30] + list(range(30)))

    def test_increasing_whatever_the_order_of_taking(self):
        calls = hall(3, 5, 0, [], [(2, 1), (0, 4), (1, 0), (0, 0), (2, 4), (1, 3)])
        self.assertEqual(last(calls + [("list_taken_seats",)]), [6, 0, 4, 5, 8, 11, 14])
        calls += [("free_seat", 1, 0), ("free_seat", 2, 4), ("take_seats", 1, 1, 2), ("take_seat", 1, 0)]
        self.assertEqual(last(calls + [("list_taken_seats",)]), [7, 0, 4, 5, 6, 7, 8, 11])
        calls += [("free_seat", 0, 0), ("take_seat", 2, 0), ("take_seat", 0, 0)]
        self.assertEqual(last(calls + [("list_taken_seats",)]), [8, 0, 4, 5, 6, 7, 8, 10, 11])

    def test_seats_of_groups_and_parties(self):
        calls = hall(2, 6, 1, [2, 3], [(0, 0)]) + [("seat_groups", 3), ("list_taken_seats",)]
        # Group 1 has the greater mask and sits in row 0, group 0 in row 1.
        self.assertEqual(last(calls), [6, 0, 1, 2, 3, 6, 7])
        self.assertEqual(last(calls + [("place_party", 2), ("list_taken_seats",)]), [8, 0, 1, 2, 3, 4, 5, 6, 7])

    def test_with_every_pattern_of_a_short_hall(self):
        seats = list(itertools.product(range(2), range(4)))
        for pattern in range(256):
            taken = [number for number in range(8) if pattern >> number & 1]
            calls = hall(2, 4, 0, [], [seats[number] for number in reversed(taken)])
            told = ask(calls + [("list_taken_seats",), ("free_runs",), ("get_state",)])
            runs = runs_of(2, 4, [seats[number] for number in taken])
            self.assertEqual(told[-3], [len(taken)] + taken)
            self.assertEqual(told[-2], [len(runs)] + [number for run in runs for number in run])
            self.assertEqual(told[-1], [2, 4, 0, len(taken), 0])

    def test_it_changes_nothing(self):
        before = hall(2, 6, 1, [3], [(1, 2), (0, 2)])
        self.assertEqual(looked_at(before + [("list_taken_seats",)] * 2, 2, 6), looked_at(before, 2, 6))


class GetState(unittest.TestCase):
    def test_behind_every_call_that_changes_something(self):
        changes = [
            (("create", 2, 7, 1), [2, 7, 1, 0, 0]),
            (("take_seat", 1, 3), [2, 7, 1, 1, 0]),
            (("add_group", 4), [2, 7, 1, 1, 1]),
            (("add_group", 2), [2, 7, 1, 1, 2]),
            (("add_group", 1), [2, 7, 1, 1, 3]),
            (("set_gap", 2), [2, 7, 2, 1, 3]),
            (("seat_groups", 5), [2, 7, 2, 6, 1]),
            (("place_party", 3), [2, 7, 2, 9, 1]),
            (("take_seats", 0, 4, 2), [2, 7, 2, 11, 1]),
            (("free_seat", 1, 3), [2, 7, 2, 10, 1]),
            (("remove_group", 0), [2, 7, 2, 10, 0]),
            (("set_gap", 0), [2, 7, 0, 10, 0]),
            (("create", 3, 4, 2), [3, 4, 2, 0, 0]),
        ]
        calls = []
        for change, state in changes:
            calls.append(change)
            self.assertEqual(last(calls + [("get_state",)]), state, change)
            self.assertEqual(ask(calls + [("get_state",)] * 2)[-2:], [state, state])

    def test_behind_every_kind_of_error(self):
        calls = hall(2, 6, 1, [1, 2, 3, 4, 5], [(0, 3), (1, 0)])
        for refused in [
            ("create", 0, 6, 1), ("create", 4, 6, 0), ("create", 1, 11, 2), ("create", 1, 6, 3),
            ("take_seat", 0, 3), ("take_seat", 2, 0), ("free_seat", 0, 2), ("free_seat", 0, 6),
            ("add_group", 0), ("add_group", 7), ("add_group", 1), ("remove_group", 5), ("set_gap", 3),
            ("seat_groups", 31), ("seat_groups", 32), ("place_party", 0), ("place_party", 6), ("place_party", 11),
            ("take_seats", 2, 0, 1), ("take_seats", 0, 0, 0), ("take_seats", 0, 0, 7), ("take_seats", 0, 0, 6),
        ]:
            told = ask(calls + [refused, ("get_state",)])
            self.assertLess(told[-2][0], 0, refused)
            self.assertEqual(told[-1], [2, 6, 1, 2, 5], refused)

    def test_it_changes_nothing(self):
        before = hall(2, 6, 1, [3], [(1, 2), (0, 2)])
        self.assertEqual(looked_at(before + [("get_state",)] * 2, 2, 6), looked_at(before, 2, 6))


if __name__ == "__main__":
    unittest.main()
