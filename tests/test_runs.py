"""isolated_seats, longest_run and tightest_run."""

import itertools
import unittest

from tests.helper import FAR, NO_ROOM, OUT_OF_RANGE, ask, hall, last, looked_at, runs_of

FULL = [("create", 2, 2, 0), ("take_seats", 0, 0, 2), ("take_seats", 1, 0, 2)]
# Runs: row 0 has 0-3 and 5-6, row 1 has 0-1, 3-5 and 7, row 2 is free.
MIXED = hall(3, 8, 2, [], [(0, 4), (0, 7), (1, 2), (1, 6)])


def short_rows():
    """Every pattern of taken seats in short rows: the calls that make it, and its runs."""
    for rows, seats_per_row in [(1, 1), (1, 7), (2, 3), (3, 2)]:
        seats = list(itertools.product(range(rows), range(seats_per_row)))
        for pattern in range(1 << len(seats)):
            taken = [seat for number, seat in enumerate(seats) if pattern >> number & 1]
            yield hall(rows, seats_per_row, 0, [], taken), runs_of(rows, seats_per_row, taken)


class IsolatedSeats(unittest.TestCase):
    def isolated(self, rows, seats_per_row, taken):
        return last(hall(rows, seats_per_row, 0, [], taken) + [("isolated_seats",)])

    def test_only_runs_of_one_seat_are_counted(self):
        self.assertEqual(self.isolated(1, 5, []), [0])
        self.assertEqual(self.isolated(1, 5, [(0, 1)]), [1])
        self.assertEqual(self.isolated(1, 5, [(0, 2)]), [0])
        self.assertEqual(self.isolated(1, 5, [(0, 1), (0, 3)]), [3])
        self.assertEqual(self.isolated(1, 5, [(0, 0), (0, 2), (0, 4)]), [2])
        self.assertEqual(last(MIXED + [("isolated_seats",)]), [1])

    def test_a_row_of_one_seat(self):
        self.assertEqual(self.isolated(1, 1, []), [1])
        self.assertEqual(self.isolated(3, 1, []), [3])
        self.assertEqual(self.isolated(3, 1, [(1, 0)]), [2])

    def test_free_seats_of_two_rows_stay_apart(self):
        # The last seat of row 0 and the first seat of row 1 are no run of two.
        self.assertEqual(self.isolated(2, 3, [(0, 0), (0, 1), (1, 1), (1, 2)]), [2])

    def test_without_free_seats(self):
        self.assertEqual(last(FULL + [("isolated_seats",)]), [0])
        self.assertEqual(last(FULL + [("free_seat", 1, 0), ("isolated_seats",)]), [1])

    def test_the_most(self):
        odd = [(row, seat) for row in range(3) for seat in (1, 3, 5, 7, 9)]
        self.assertEqual(self.isolated(3, 10, odd), [15])

    def test_the_gap_and_the_groups_do_not_count(self):
        for gap in range(3):
            self.assertEqual(last(hall(1, 5, gap, [1, 1, 4], [(0, 1)]) + [("isolated_seats",)]), [1])

    def test_every_pattern_of_short_rows(self):
        for calls, runs in short_rows():
            single = [run for run in runs if run[2] == 1]
            self.assertEqual(last(calls + [("isolated_seats",)]), [len(single)], runs)


class LongestRun(unittest.TestCase):
    def test_length_then_row_then_first_seat(self):
        self.assertEqual(last(MIXED + [("longest_run",)]), [8, 2, 0])
        self.assertEqual(last(hall(2, 5, 0, [], [(0, 2), (1, 0)]) + [("longest_run",)]), [4, 1, 1])
        self.assertEqual(last(hall(1, 7, 0, [], [(0, 2)]) + [("longest_run",)]), [4, 0, 3])
        self.assertEqual(last(hall(1, 7, 0, [], [(0, 4)]) + [("longest_run",)]), [4, 0, 0])

    def test_the_first_of_several_in_one_row(self):
        self.assertEqual(last(hall(1, 5, 0, [], [(0, 2)]) + [("longest_run",)]), [2, 0, 0])
        self.assertEqual(last(hall(1, 8, 0, [], [(0, 1), (0, 4), (0, 7)]) + [("longest_run",)]), [2, 0, 2])

    def test_the_first_of_several_in_several_rows(self):
        self.assertEqual(last([("create", 3, 10, 0), ("longest_run",)]), [10, 0, 0])
        self.assertEqual(last(hall(3, 4, 0, [], [(0, 1)]) + [("longest_run",)]), [4, 1, 0])
        # Row 0 has runs of 1 and 2, row 1 of 2 from seat 0, row 2 of 2 in the end.
        taken = [(0, 1), (1, 2), (1, 3), (2, 0), (2, 1)]
        self.assertEqual(last(hall(3, 4, 0, [], taken) + [("longest_run",)]), [2, 0, 2])
        self.assertEqual(last(hall(3, 4, 0, [], taken + [(0, 2)]) + [("longest_run",)]), [2, 1, 0])

    def test_without_free_seats(self):
        self.assertEqual(last(FULL + [("longest_run",)]), NO_ROOM)
        self.assertEqual(last(FULL + [("free_seat", 1, 1), ("longest_run",)]), [1, 1, 1])
        self.assertEqual(last([("create", 1, 1, 0), ("place_party", 1), ("longest_run",)]), NO_ROOM)

    def test_after_seats_were_taken_and_freed(self):
        calls = [("create", 1, 6, 0), ("take_seat", 0, 3), ("longest_run",), ("take_seat", 0, 0), ("longest_run",)]
        calls += [("free_seat", 0, 3), ("longest_run",)]
        self.assertEqual(ask(calls)[2::2], [[3, 0, 0], [2, 0, 1], [5, 0, 1]])

    def test_every_pattern_of_short_rows(self):
        for calls, runs in short_rows():
            longest = [[length, row, first] for row, first, length in runs if length == max(run[2] for run in runs)]
            self.assertEqual(last(calls + [("longest_run",)]), (longest + [NO_ROOM])[0], runs)


class TightestRun(unittest.TestCase):
    def test_row_then_first_seat_then_length(self):
        for size, run in [(1, [1, 7, 1]), (3, [1, 3, 3]), (4, [0, 0, 4]), (5, [2, 0, 8]), (8, [2, 0, 8])]:
            self.assertEqual(last(MIXED + [("tightest_run", size)]), run)

    def test_the_first_of_several_in_one_row(self):
        calls = hall(1, 7, 0, [], [(0, 0), (0, 3), (0, 6)])
        self.assertEqual(last(calls + [("tightest_run", 2)]), [0, 1, 2])
        self.assertEqual(last(calls + [("tightest_run", 1)]), [0, 1, 2])

    def test_the_first_of_several_in_several_rows(self):
        self.assertEqual(last(MIXED + [("tightest_run", 2)]), [0, 5, 2])
        for size in range(1, 11):
            self.assertEqual(last([("create", 3, 10, 0), ("tightest_run", size)]), [0, 0, 10])
        calls = hall(3, 4, 0, [], [(1, 0), (2, 3)])
        self.assertEqual(last(calls + [("tightest_run", 2)]), [1, 1, 3])
        self.assertEqual(last(calls + [("tightest_run", 4)]), [0, 0, 4])

    def test_a_longer_run_ahead_is_passed_over(self):
        self.assertEqual(last(hall(1, 9, 0, [], [(0, 5)]) + [("tightest_run", 3)]), [0, 6, 3])
        self.assertEqual(last(hall(2, 5, 0, [], [(1, 3)]) + [("tightest_run", 1)]), [1, 4, 1])

    def test_a_size_outside_its_range(self):
        for size in (0,) + FAR:
            self.assertEqual(last([("create", 3, 10, 0), ("tightest_run", size)]), OUT_OF_RANGE, size)

    def test_no_run_is_long_enough(self):
        self.assertEqual(last([("create", 3, 4, 0), ("tightest_run", 5)]), NO_ROOM)
        self.assertEqual(last([("create", 3, 9, 0), ("tightest_run", 10)]), NO_ROOM)
        self.assertEqual(last(hall(1, 3, 0, [], [(0, 1)]) + [("tightest_run", 2)]), NO_ROOM)
        self.assertEqual(last([("create", 2, 3, 0), ("tightest_run", 4)]), NO_ROOM)
        for size in range(1, 11):
            self.assertEqual(last(FULL + [("tightest_run", size)]), NO_ROOM)

    def test_the_range_is_checked_before_the_runs(self):
        for size in (0,) + FAR:
            self.assertEqual(last(FULL + [("tightest_run", size)]), OUT_OF_RANGE, size)

    def test_it_is_where_place_party_sits(self):
        for size in range(1, 11):
            told = ask(MIXED + [("tightest_run", size), ("place_party", size)])
            self.assertEqual(told[-2][:2], told[-1][:2])

    def test_every_pattern_of_short_rows(self):
        for calls, runs in short_rows():
            told = ask(calls + [("tightest_run", size) for size in range(1, 9)])[len(calls):]
            for size, answer in enumerate(told, start=1):
                enough = sorted((length, row, first) for row, first, length in runs if length >= size)
                tightest = [[row, first, length] for length, row, first in enough]
                self.assertEqual(answer, (tightest + [NO_ROOM])[0], (runs, size))


class NothingChanges(unittest.TestCase):
    def test_whether_they_are_answered_or_refused(self):
        part = hall(2, 6, 1, [3], [(0, 2), (1, 0)])
        full = [("create", 1, 6, 1), ("add_group", 3), ("take_seats", 0, 0, 6)]
        for before, rows in [(part, 2), (full, 1)]:
            seen = looked_at(before, rows, 6)
            for call in [("isolated_seats",), ("longest_run",), ("tightest_run", 2), ("tightest_run", 0)]:
                self.assertEqual(looked_at(before + [call] * 2, rows, 6), seen, call)


if __name__ == "__main__":
    unittest.main()
