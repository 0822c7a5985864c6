"""What a session keeps: no planner at first, later the seats, the waiting groups and the gap."""


class Session:
    def __init__(self):
        self.planner = None


class Planner:
    def __init__(self, rows, seats_per_row, gap):
        self.rows = rows
        self.seats_per_row = seats_per_row
        self.gap = gap
        self.taken = [False] * (rows * seats_per_row)
        self.sizes = []

    # Row and seat are asked one by one: a seat beyond its row would have the index of one in the next row.
    def has_seat(self, row, seat):
        return row < self.rows and seat < self.seats_per_row

    def is_taken(self, row, seat):
        return self.taken[self.seat_index(row, seat)]

    def seat_index(self, row, seat):
        return row * self.seats_per_row + seat

    def take(self, row, first, seats):
        for seat in range(first, first + seats):
            self.taken[self.seat_index(row, seat)] = True

    def vacate(self, row, seat):
        self.taken[self.seat_index(row, seat)] = False

    def taken_count(self):
        return self.taken.count(True)

    # The seat indices in increasing order.
    def taken_indices(self):
        return [index for index, taken in enumerate(self.taken) if taken]

    # What would be is tried on a twin, so that this planner stays as it is at every moment.
    def twin(self):
        other = Planner(self.rows, self.seats_per_row, self.gap)
        other.taken = list(self.taken)
        other.sizes = list(self.sizes)
        return other

    def has_groups(self, group_set):
        return group_set < (1 << len(self.sizes))

    def remove_groups(self, group_set):
        self.sizes = [size for group, size in enumerate(self.sizes) if (group_set >> group) & 1 == 0]
