"""The runs of a planner: its longest sequences of adjacent free seats."""


class Run:
    def __init__(self, row, first, length):
        self.row = row
        self.first = first
        self.length = length


# In order: by row, then by first seat.
def find_runs(planner):
    runs = []
    for row in range(planner.rows):
        runs.extend(find_runs_in_row(planner, row))
    return runs


def find_runs_in_row(planner, row):
    runs = []
    length = 0
    for seat in range(planner.seats_per_row):
        if not planner.is_taken(row, seat):
            length += 1
        elif length > 0:
            runs.append(Run(row, seat - length, length))
            length = 0
    if length > 0:
        runs.append(Run(row, planner.seats_per_row - length, length))
    return runs


# The first of the longest runs, or None.
def find_longest_run(runs):
    longest = None
    for run in runs:
        if longest is None or run.length > longest.length:
            longest = run
    return longest


# The first of the shortest runs with enough seats, or None.
def find_tightest_run(runs, size):
    tightest = None
    for run in runs:
        if run.length >= size and (tightest is None or run.length < tightest.length):
            tightest = run
    return tightest
