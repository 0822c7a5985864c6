"""take_seat, free_seat, place_party and free_runs."""

import itertools
import unittest

from tests.helper import ALREADY_SO, FAR, NO_ROOM, NOT_THERE, OUT_OF_RANGE, ask, last, looked_at, runs_of


def flat(runs):
    return [len(runs)] + [number for run in runs for number in run]


class TakeSeat(unittest.TestCase):
    def test_every_seat_is_counted_and_no_longer_free(self):
        calls = [("create", 3, 10, 0)]
        taken = set()
        for row in (2, 0, 1):
            for seat in range(10):
                calls.append(("take_seat", row, seat))
                taken.add((row, seat))
                told = ask(calls + [("free_runs",)])
                self.assertEqual(told[-2], [len(taken)])
                self.assertEqual(told[-1], flat(runs_of(3, 10, taken)))

    def test_a_seat_that_is_not_there(self):
        for row, seat in [(2, 0), (2, 4), (0, 4), (1, 4), (3, 3), (2, 3)]:
            self.assertEqual(last([("create", 2, 4, 0), ("take_seat", row, seat)]), NOT_THERE)
        for number in FAR:
            self.assertEqual(last([("create", 3, 10, 0), ("take_seat", number, 0)]), NOT_THERE)
            self.assertEqual(last([("create", 3, 10, 0), ("take_seat", 0, number)]), NOT_THERE)
            self.assertEqual(last([("create", 3, 10, 0), ("take_seat", number, number)]), NOT_THERE)

    def test_a_seat_beyond_its_row_is_not_one_of_the_next(self):
        calls = [("create", 2, 4, 0), ("take_seat", 1, 0), ("take_seat", 0, 4)]
        self.assertEqual(last(calls), NOT_THERE)
        self.assertEqual(last(calls + [("free_runs",)]), [2, 0, 0, 4, 1, 1, 3])
        self.assertEqual(last([("create", 2, 4, 0), ("take_seat", 0, 4), ("free_runs",)]), [2, 0, 0, 4, 1, 0, 4])

    def test_a_taken_seat(self):
        calls = [("create", 2, 4, 0), ("take_seat", 1, 2), ("take_seat", 0, 3)]
        self.assertEqual(ask(calls + [("take_seat", 1, 2)])[1:], [[1], [2], ALREADY_SO])
        self.assertEqual(last(calls + [("take_seat", 0, 3)]), ALREADY_SO)
        self.assertEqual(last(calls + [("take_seat", 1, 3)]), [3])

    def test_a_seat_taken_by_a_group_or_a_party(self):
        calls = [("create", 1, 6, 0), ("add_group", 2), ("seat_groups", 1), ("place_party", 1)]
        for seat in (0, 1, 2):
            self.assertEqual(last(calls + [("take_seat", 0, seat)]), ALREADY_SO)
        self.assertEqual(last(calls + [("take_seat", 0, 3)]), [4])

    def test_errors_change_nothing(self):
        before = [("create", 2, 6, 1), ("add_group", 3), ("take_seat", 0, 2)]
        for call in [("take_seat", 0, 2), ("take_seat", 0, 6), ("take_seat", 2, 0)]:
            self.assertEqual(looked_at(before + [call], 2, 6), looked_at(before, 2, 6))


class FreeSeat(unittest.TestCase):
    def test_a_taken_seat_is_free_again(self):
        calls = [("create", 2, 3, 0), ("take_seat", 0, 1), ("take_seat", 1, 1), ("take_seat", 1, 2)]
        self.assertEqual(last(calls + [("free_seat", 1, 1)]), [2])
        calls += [("free_seat", 1, 1), ("free_seat", 0, 1), ("free_seat", 1, 2)]
        self.assertEqual(ask(calls)[4:], [[2], [1], [0]])
        self.assertEqual(last(calls + [("free_runs",)]), [2, 0, 0, 3, 1, 0, 3])
        self.assertEqual(last(calls + [("take_seat", 1, 1)]), [1])

    def test_every_seat(self):
        seats = list(itertools.product(range(3), range(10)))
        calls = [("create", 3, 10, 0)] + [("take_seat", row, seat) for row, seat in seats]
        calls += [("free_seat", row, seat) for row, seat in reversed(seats)]
        self.assertEqual(ask(calls)[31:], [[left] for left in range(29, -1, -1)])

    def test_a_seat_that_is_not_there(self):
        full = [("create", 2, 2, 0)] + [("take_seat", row, seat) for row in (0, 1) for seat in (0, 1)]
        for row, seat in [(2, 0), (0, 2), (1, 2), (2, 2), (0, 3)]:
            self.assertEqual(last(full + [("free_seat", row, seat)]), NOT_THERE)
            self.assertEqual(last(full + [("free_seat", row, seat), ("free_runs",)]), [0])
        for number in FAR:
            self.assertEqual(last(full + [("free_seat", number, 0)]), NOT_THERE)
            self.assertEqual(last(full + [("free_seat", 1, number)]), NOT_THERE)
            self.assertEqual(last([("create", 2, 2, 0), ("free_seat", 1, number)]), NOT_THERE)

    def test_a_free_seat(self):
        calls = [("create", 2, 4, 0), ("take_seat", 1, 2)]
        for row, seat in [(1, 1), (1, 3), (0, 2), (0, 0)]:
            self.assertEqual(last(calls + [("free_seat", row, seat)]), ALREADY_SO)
        self.assertEqual(last(calls + [("free_seat", 1, 2), ("free_seat", 1, 2)]), ALREADY_SO)

    def test_a_seat_of_a_seated_group(self):
        calls = [("create", 1, 6, 0), ("add_group", 3), ("seat_groups", 1), ("free_seat", 0, 1)]
        self.assertEqual(last(calls), [2])
        self.assertEqual(last(calls + [("free_runs",)]), [2, 0, 1, 1, 0, 3, 3])

    def test_errors_change_nothing(self):
        before = [("create", 2, 6, 1), ("add_group", 3), ("take_seat", 0, 2)]
        for call in [("free_seat", 0, 1), ("free_seat", 0, 6), ("free_seat", 2, 2)]:
            self.assertEqual(looked_at(before + [call], 2, 6), looked_at(before, 2, 6))


class FreeRuns(unittest.TestCase):
    def taking(self, rows, seats_per_row, taken):
        calls = [("create", rows, seats_per_row, 0)]
        calls += [("take_seat", row, seat) for row, seat in sorted(taken)]
        return last(calls + [("free_runs",)])

    def test_at_the_ends_of_a_row(self):
        self.assertEqual(self.taking(1, 5, [(0, 0)]), [1, 0, 1, 4])
        self.assertEqual(self.taking(1, 5, [(0, 4)]), [1, 0, 0, 4])
        self.assertEqual(self.taking(1, 5, [(0, 0), (0, 4)]), [1, 0, 1, 3])
        self.assertEqual(self.taking(1, 5, [(0, 1), (0, 3)]), [3, 0, 0, 1, 0, 2, 1, 0, 4, 1])
        self.assertEqual(self.taking(1, 5, [(0, 0), (0, 1), (0, 2), (0, 3)]), [1, 0, 4, 1])

    def test_a_full_row_has_none(self):
        self.assertEqual(self.taking(1, 1, [(0, 0)]), [0])
        self.assertEqual(self.taking(1, 3, [(0, seat) for seat in range(3)]), [0])
        self.assertEqual(self.taking(2, 3, [(0, seat) for seat in range(3)]), [1, 1, 0, 3])
        self.assertEqual(self.taking(3, 3, [(1, seat) for seat in range(3)]), [2, 0, 0, 3, 2, 0, 3])
        self.assertEqual(self.taking(3, 2, [(row, seat) for row in range(3) for seat in range(2)]), [0])

    def test_runs_of_several_rows_stay_apart(self):
        self.assertEqual(self.taking(1, 1, []), [1, 0, 0, 1])
        self.assertEqual(self.taking(3, 10, []), [3, 0, 0, 10, 1, 0, 10, 2, 0, 10])
        self.assertEqual(
            self.taking(3, 4, [(0, 1), (1, 0), (1, 3), (2, 2)]),
            [5, 0, 0, 1, 0, 2, 2, 1, 1, 2, 2, 0, 2, 2, 3, 1],
        )

    def test_the_most_runs(self):
        odd = [(row, seat) for row in range(3) for seat in (1, 3, 5, 7, 9)]
        even = [(row, seat, 1) for row in range(3) for seat in (0, 2, 4, 6, 8)]
        self.assertEqual(self.taking(3, 10, odd), flat(even))

    def test_every_pattern_of_a_short_hall(self):
        for rows, seats_per_row in [(1, 1), (1, 6), (2, 3), (3, 2)]:
            seats = list(itertools.product(range(rows), range(seats_per_row)))
            for pattern in range(1 << len(seats)):
                taken = {seat for number, seat in enumerate(seats) if pattern >> number & 1}
                self.assertEqual(self.taking(rows, seats_per_row, taken), flat(runs_of(rows, seats_per_row, taken)))

    def test_each_free_seat_is_in_one_run_that_cannot_be_extended(self):
        taken = {(0, 0), (0, 4), (1, 9), (2, 3), (2, 4), (2, 6)}
        told = self.taking(3, 10, taken)
        runs = [tuple(told[start:start + 3]) for start in range(1, len(told), 3)]
        self.assertEqual(len(runs), told[0])
        covered = [(row, seat) for row, first, length in runs for seat in range(first, first + length)]
        self.assertEqual(len(covered), len(set(covered)))
        self.assertEqual(set(covered) | taken, set(itertools.product(range(3), range(10))))
        self.assertEqual(set(covered) & taken, set())
        for row, first, length in runs:
            self.assertTrue(first == 0 or (row, first - 1) in taken)
            self.assertTrue(first + length == 10 or (row, first + length) in taken)

    def test_it_changes_nothing(self):
        before = [("create", 2, 6, 1), ("add_group", 3), ("take_seat", 0, 2)]
        self.assertEqual(looked_at(before + [("free_runs",)] * 3, 2, 6), looked_at(before, 2, 6))


class PlaceParty(unittest.TestCase):
    # Runs: row 0 has 0-3 and 5-6, row 1 has 0-1, 3-5 and 7, row 2 is free.
    HALL = [("create", 3, 8, 2)] + [
        ("take_seat", row, seat) for row, seat in [(0, 4), (0, 7), (1, 2), (1, 6)]
    ]

    def test_the_shortest_run_that_is_long_enough(self):
        self.assertEqual(last(self.HALL + [("free_runs",)]), [6, 0, 0, 4, 0, 5, 2, 1, 0, 2, 1, 3, 3, 1, 7, 1, 2, 0, 8])
        for size, place in [(1, [1, 7]), (3, [1, 3]), (4, [0, 0]), (5, [2, 0]), (8, [2, 0])]:
            self.assertEqual(last(self.HALL + [("place_party", size)]), place)

    def test_the_first_of_several(self):
        self.assertEqual(last(self.HALL + [("place_party", 2)]), [0, 5])
        self.assertEqual(last([("create", 3, 5, 0), ("place_party", 5)]), [0, 0])
        in_one_row = [("create", 1, 7, 0), ("take_seat", 0, 0), ("take_seat", 0, 3), ("take_seat", 0, 6)]
        self.assertEqual(last(in_one_row + [("place_party", 2)]), [0, 1])
        in_one_row += [("place_party", 2), ("place_party", 2), ("place_party", 1)]
        self.assertEqual(ask(in_one_row)[4:], [[0, 1], [0, 4], NO_ROOM])

    def test_the_first_seats_of_the_run_become_taken_and_no_others(self):
        told = ask([("create", 1, 7, 1), ("take_seat", 0, 0), ("place_party", 3), ("free_runs",), ("take_seat", 0, 6)])
        self.assertEqual(told[2:], [[0, 1], [1, 0, 4, 3], [5]])
        told = ask([("create", 2, 3, 0), ("place_party", 3), ("free_runs",)])
        self.assertEqual(told[1:], [[0, 0], [1, 1, 0, 3]])

    def test_no_gap_is_kept(self):
        for gap in (0, 1, 2):
            told = ask([("create", 1, 5, gap), ("place_party", 2), ("place_party", 3), ("free_runs",)])
            self.assertEqual(told[1:], [[0, 0], [0, 2], [0]])

    def test_every_size(self):
        for size in range(1, 11):
            told = ask([("create", 1, 10, 0), ("place_party", size), ("free_runs",)])
            self.assertEqual(told[1], [0, 0])
            self.assertEqual(told[2], [1, 0, size, 10 - size] if size < 10 else [0])
            self.assertEqual(last([("create", 3, size, 0), ("place_party", size)]), [0, 0])

    def test_waiting_groups_stay(self):
        before = [("create", 1, 6, 0), ("add_group", 2), ("add_group", 3)]
        self.assertEqual(last(before + [("place_party", 2), ("add_group", 1)]), [2])
        self.assertEqual(last(before + [("place_party", 2), ("seating_plan", 1)]), [1, 0, 2])

    def test_a_size_outside_its_range(self):
        for size in (0,) + FAR:
            self.assertEqual(last([("create", 3, 10, 0), ("place_party", size)]), OUT_OF_RANGE)

    def test_no_run_is_long_enough(self):
        self.assertEqual(last([("create", 3, 4, 0), ("place_party", 5)]), NO_ROOM)
        self.assertEqual(last([("create", 3, 9, 0), ("place_party", 10)]), NO_ROOM)
        self.assertEqual(last([("create", 1, 1, 0), ("take_seat", 0, 0), ("place_party", 1)]), NO_ROOM)
        self.assertEqual(last([("create", 1, 3, 0), ("take_seat", 0, 1), ("place_party", 2)]), NO_ROOM)
        # Two rows end and begin with free seats, but they aren't adjacent.
        self.assertEqual(last([("create", 2, 3, 0), ("place_party", 4)]), NO_ROOM)

    def test_the_range_is_checked_before_the_runs(self):
        full = [("create", 1, 1, 0), ("take_seat", 0, 0)]
        for size in (0,) + FAR:
            self.assertEqual(last(full + [("place_party", size)]), OUT_OF_RANGE)

    def test_errors_change_nothing(self):
        before = [("create", 2, 6, 1), ("add_group", 3), ("take_seat", 0, 2)]
        for size in (0, 7, 10, 11):
            self.assertEqual(looked_at(before + [("place_party", size)], 2, 6), looked_at(before, 2, 6))


if __name__ == "__main__":
    unittest.main()
