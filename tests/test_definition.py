"""Seating held against the document's definitions, hall by hall, and whole sessions against a plain model."""

import itertools
import random
import unittest

from tests.helper import (
    ALREADY_SO,
    FAR,
    NO_ROOM,
    NOT_THERE,
    OUT_OF_RANGE,
    TOO_MANY_GROUPS,
    ask,
    can_sit,
    fits,
    hall as calls_of_hall,
    members,
    most_seated,
    needed,
    plan,
    runs_of,
)


def lengths_of(runs):
    return [length for row, first, length in runs]


class Hall:
    """One hall with its waiting groups, and what the program answers for it."""

    def __init__(self, rows, seats_per_row, gap, taken, sizes):
        self.rows = rows
        self.seats_per_row = seats_per_row
        self.gap = gap
        self.sizes = sizes
        self.taken = set(taken)
        self.runs = runs_of(rows, seats_per_row, self.taken)
        self.calls = calls_of_hall(rows, seats_per_row, gap, sizes, sorted(self.taken))
        self.sets = range(1 << len(sizes))

    def __repr__(self):
        return f"gap {self.gap}, sizes {self.sizes}, runs {self.runs}"

    def told(self, calls):
        return ask(self.calls + calls)[len(self.calls):]

    def answers_for_each_set(self, name):
        return self.told([(name, mask) for mask in self.sets])

    def planned(self, mask):
        return [number for place in plan(self.runs, self.sizes, self.gap, mask) for number in place]

    def can_be_seated(self, mask):
        return fits(lengths_of(self.runs), self.sizes, self.gap, members(mask))


def short_halls():
    """Every pattern of taken seats in short rows, with a few sets of groups."""
    for rows, seats_per_row in [(1, 5), (2, 3), (3, 2)]:
        seats = list(itertools.product(range(rows), range(seats_per_row)))
        for pattern in range(1 << len(seats)):
            taken = [seat for number, seat in enumerate(seats) if pattern >> number & 1]
            for sizes in ([1, 2, 1], [2, 1, 3]):
                yield Hall(rows, seats_per_row, pattern % 3, taken, sizes)


def long_halls():
    """Larger halls, up to the greatest, drawn from a fixed seed."""
    draw = random.Random(20)
    for turn in range(150):
        rows = turn % 3 + 1
        seats_per_row = draw.choice([4, 6, 7, 8, 9, 10, 10])
        seats = list(itertools.product(range(rows), range(seats_per_row)))
        taken = draw.sample(seats, draw.choice([0, 1, 2, 3, rows * 2]))
        most = draw.choice([2, 4, 6])
        sizes = [draw.randint(1, most) for group in range(draw.choice([3, 4, 5, 5]))]
        yield Hall(rows, seats_per_row, draw.randint(0, 2), taken, sizes)


class Definitions(unittest.TestCase):
    def held(self, hall):
        seated = hall.answers_for_each_set("can_seat")
        plans = hall.answers_for_each_set("seating_plan")
        for mask in hall.sets:
            if hall.can_be_seated(mask):
                self.assertEqual(seated[mask], [1], (hall, mask))
                self.assertEqual(plans[mask], [len(members(mask))] + hall.planned(mask), (hall, mask))
            else:
                self.assertEqual(seated[mask], [0], (hall, mask))
                self.assertEqual(plans[mask], NO_ROOM, (hall, mask))

    def test_short_halls(self):
        for hall in short_halls():
            self.held(hall)

    def test_long_halls(self):
        for hall in long_halls():
            self.held(hall)

    def test_can_seat_is_exact(self):
        for hall in itertools.chain(short_halls(), itertools.islice(long_halls(), 60)):
            seated = hall.answers_for_each_set("can_seat")
            for mask in hall.sets:
                found = can_sit(hall.runs, hall.sizes, hall.gap, members(mask))
                self.assertEqual(seated[mask], [int(found)], (hall, mask))


class MostSeated(unittest.TestCase):
    """max_seated and its two questions of what would be, by trying every set and every distribution."""

    def held(self, hall):
        most = most_seated(hall.runs, hall.sizes, hall.gap)
        self.assertEqual(hall.told([("max_seated",)]), [most], hall)
        for gap in range(3):
            told = hall.told([("max_seated_if_gap", gap), ("max_seated",), ("set_gap", gap), ("max_seated",)])
            with_gap = most_seated(hall.runs, hall.sizes, gap)
            self.assertEqual(told, [with_gap[:1], most, [hall.gap], with_gap], (hall, gap))

    def held_for_each_seat(self, hall):
        for row, seat in itertools.product(range(hall.rows), range(hall.seats_per_row)):
            runs = runs_of(hall.rows, hall.seats_per_row, hall.taken - {(row, seat)})
            if_free = most_seated(runs, hall.sizes, hall.gap)
            told = hall.told([("max_seated_if_free", row, seat), ("free_seat", row, seat), ("max_seated",)])
            self.assertEqual([told[0], told[2]], [if_free[:1], if_free], (hall, row, seat))

    def test_short_halls(self):
        for hall in short_halls():
            self.held(hall)
            self.held_for_each_seat(hall)

    def test_long_halls(self):
        for number, hall in enumerate(long_halls()):
            self.held(hall)
            if number % 10 == 0:
                self.held_for_each_seat(hall)

    def test_every_sequence_of_small_groups(self):
        # So that many sets have the same number of people, in one row and in two.
        for sizes in itertools.product((1, 2, 3), repeat=4):
            for rows, seats_per_row, taken in [(1, 6, []), (2, 4, [(0, 3)])]:
                hall = Hall(rows, seats_per_row, sum(sizes) % 3, taken, list(sizes))
                self.assertEqual(hall.told([("max_seated",)]), [most_seated(hall.runs, hall.sizes, hall.gap)], hall)

    def test_needed_seats(self):
        for hall in long_halls():
            told = hall.answers_for_each_set("needed_seats")
            self.assertEqual(told, [[needed(hall.sizes, hall.gap, members(mask))] for mask in hall.sets], hall)


class Requirements(unittest.TestCase):
    def test_no_set_that_can_be_seated_has_more_people(self):
        for hall in long_halls():
            seated = hall.answers_for_each_set("can_seat")
            people = [sum(hall.sizes[group] for group in members(mask)) for mask in hall.sets]
            most, chosen = hall.told([("max_seated",)])[0]
            self.assertEqual((seated[chosen], people[chosen]), ([1], most), hall)
            for mask in hall.sets:
                if seated[mask] == [1]:
                    # More people, or as many with a smaller mask, would have been the answer.
                    self.assertLessEqual((-most, chosen), (-people[mask], mask), hall)

    def test_a_smaller_gap_seats_no_fewer_people(self):
        for hall in long_halls():
            told = hall.told([("max_seated_if_gap", gap) for gap in range(3)])
            self.assertEqual(told, sorted(told, reverse=True), hall)

    def test_a_seating_plan_is_an_assignment(self):
        for hall in long_halls():
            for mask, answer in zip(hall.sets, hall.answers_for_each_set("seating_plan")):
                if answer == NO_ROOM:
                    continue
                places = list(zip(answer[1::2], answer[2::2]))
                self.assertEqual((answer[0], len(places)), (len(members(mask)),) * 2)
                self.sits_well(hall, [(row, first, hall.sizes[g]) for (row, first), g in zip(places, members(mask))])

    def sits_well(self, hall, seated):
        run_of = {}
        for place in seated:
            row, first, size = place
            around = [run for run in hall.runs if run[0] == row and run[1] <= first < run[1] + run[2]]
            self.assertEqual(len(around), 1, (hall, seated))
            self.assertLessEqual(first + size, around[0][1] + around[0][2], (hall, seated))
            run_of[place] = around[0]
        for one, other in itertools.combinations(seated, 2):
            if run_of[one] == run_of[other]:
                left, right = sorted([one, other])
                self.assertGreaterEqual(right[1] - left[1] - left[2], hall.gap, (hall, seated))

    def test_every_subset_can_be_seated(self):
        for hall in long_halls():
            seated = hall.answers_for_each_set("can_seat")
            for mask in hall.sets:
                if seated[mask] == [1]:
                    for part in hall.sets:
                        if part & mask == part:
                            self.assertEqual(seated[part], [1], (hall, mask, part))

    def test_a_smaller_gap_never_prevents_a_seating(self):
        for hall in long_halls():
            everyone = len(hall.sets) - 1
            calls = list(hall.calls)
            for gap in range(3):
                calls += [("set_gap", gap), ("can_seat", everyone)]
            results = [answer[0] for answer in ask(calls)[-5::2]]
            self.assertEqual(results, sorted(results, reverse=True), hall)

    def test_seating_takes_exactly_the_seats_of_the_plan(self):
        for hall in itertools.islice(long_halls(), 60):
            for mask in hall.sets:
                told = ask(hall.calls + [("seating_plan", mask), ("seat_groups", mask), ("free_runs",)])
                if told[-3] == NO_ROOM:
                    self.assertEqual(told[-2], NO_ROOM)
                    continue
                taken = set(hall.taken)
                groups = members(mask)
                for number, group in enumerate(groups):
                    row, first = told[-3][1 + 2 * number:3 + 2 * number]
                    taken |= {(row, seat) for seat in range(first, first + hall.sizes[group])}
                people = sum(hall.sizes[group] for group in groups)
                self.assertEqual(told[-2], [people], (hall, mask))
                self.assertEqual(len(taken), len(hall.taken) + people)
                runs = runs_of(hall.calls[0][1], hall.calls[0][2], taken)
                self.assertEqual(told[-1], [len(runs)] + [number for run in runs for number in run], (hall, mask))


class Model:
    """The operations written once more, as plainly as they can be; `told` is what a call is to answer."""

    def __init__(self):
        self.made = False

    def told(self, call):
        if call[0] != "create" and not self.made:
            return [-11]
        return getattr(self, call[0])(*call[1:])

    def create(self, rows, seats_per_row, gap):
        if rows not in range(1, 4) or seats_per_row not in range(1, 11) or gap not in range(3):
            return OUT_OF_RANGE
        self.made = True
        self.rows, self.seats_per_row, self.gap = rows, seats_per_row, gap
        self.taken, self.sizes = set(), []
        return [0]

    def runs(self):
        return runs_of(self.rows, self.seats_per_row, self.taken)

    def is_there(self, row, seat):
        return row < self.rows and seat < self.seats_per_row

    def take_seat(self, row, seat):
        if not self.is_there(row, seat):
            return NOT_THERE
        if (row, seat) in self.taken:
            return ALREADY_SO
        self.taken.add((row, seat))
        return [len(self.taken)]

    def free_seat(self, row, seat):
        if not self.is_there(row, seat):
            return NOT_THERE
        if (row, seat) not in self.taken:
            return ALREADY_SO
        self.taken.remove((row, seat))
        return [len(self.taken)]

    def add_group(self, size):
        if size not in range(1, 7):
            return OUT_OF_RANGE
        if len(self.sizes) == 5:
            return TOO_MANY_GROUPS
        self.sizes.append(size)
        return [len(self.sizes) - 1]

    def remove_group(self, group):
        if group not in range(len(self.sizes)):
            return NOT_THERE
        self.sizes.pop(group)
        return [len(self.sizes)]

    def set_gap(self, gap):
        if gap not in range(3):
            return OUT_OF_RANGE
        self.gap, previous = gap, self.gap
        return [previous]

    def fits(self, group_set):
        return fits(lengths_of(self.runs()), self.sizes, self.gap, members(group_set))

    def can_seat(self, group_set):
        if group_set not in range(2 ** len(self.sizes)):
            return OUT_OF_RANGE
        return [int(self.fits(group_set))]

    def seating_plan(self, group_set):
        if group_set not in range(2 ** len(self.sizes)):
            return OUT_OF_RANGE
        if not self.fits(group_set):
            return NO_ROOM
        places = plan(self.runs(), self.sizes, self.gap, group_set)
        return [len(places)] + [number for place in places for number in place]

    def seat_groups(self, group_set):
        planned = self.seating_plan(group_set)
        if planned in (OUT_OF_RANGE, NO_ROOM):
            return planned
        groups = members(group_set)
        before = len(self.taken)
        for group, row, first in zip(groups, planned[1::2], planned[2::2]):
            self.taken |= {(row, seat) for seat in range(first, first + self.sizes[group])}
        self.sizes = [size for group, size in enumerate(self.sizes) if group not in groups]
        return [len(self.taken) - before]

    def place_party(self, size):
        if size not in range(1, 11):
            return OUT_OF_RANGE
        roomy = [run for run in self.runs() if run[2] >= size]
        if not roomy:
            return NO_ROOM
        shortest = min(length for row, first, length in roomy)
        row, first = min((row, first) for row, first, length in roomy if length == shortest)
        self.taken |= {(row, seat) for seat in range(first, first + size)}
        return [row, first]

    def free_runs(self):
        runs = self.runs()
        return [len(runs)] + [number for run in runs for number in run]

    def max_seated(self):
        return most_seated(self.runs(), self.sizes, self.gap)

    def isolated_seats(self):
        return [lengths_of(self.runs()).count(1)]

    def longest_run(self):
        ordered = sorted((-length, row, first) for row, first, length in self.runs())
        return [-ordered[0][0], ordered[0][1], ordered[0][2]] if ordered else NO_ROOM

    def tightest_run(self, size):
        if size not in range(1, 11):
            return OUT_OF_RANGE
        ordered = sorted((length, row, first) for row, first, length in self.runs() if length >= size)
        return [ordered[0][1], ordered[0][2], ordered[0][0]] if ordered else NO_ROOM

    def needed_seats(self, group_set):
        if group_set not in range(2 ** len(self.sizes)):
            return OUT_OF_RANGE
        return [needed(self.sizes, self.gap, members(group_set))]

    def list_groups(self):
        return [len(self.sizes)] + self.sizes

    def list_taken_seats(self):
        return [len(self.taken)] + sorted(row * self.seats_per_row + seat for row, seat in self.taken)

    def max_seated_if_free(self, row, seat):
        if not self.is_there(row, seat):
            return NOT_THERE
        runs = runs_of(self.rows, self.seats_per_row, self.taken - {(row, seat)})
        return most_seated(runs, self.sizes, self.gap)[:1]

    def max_seated_if_gap(self, gap):
        if gap not in range(3):
            return OUT_OF_RANGE
        return most_seated(self.runs(), self.sizes, gap)[:1]

    def take_seats(self, row, first, count):
        if not self.is_there(row, first):
            return NOT_THERE
        if count == 0 or first + count > self.seats_per_row:
            return OUT_OF_RANGE
        seats = {(row, seat) for seat in range(first, first + count)}
        if seats & self.taken:
            return ALREADY_SO
        self.taken |= seats
        return [len(self.taken)]

    def get_state(self):
        return [self.rows, self.seats_per_row, self.gap, len(self.taken), len(self.sizes)]


# How often each operation comes, and how far its numbers go: now and then a little too far.
USUAL = (
    [("take_seat", 3, 10)] * 4
    + [("free_seat", 3, 10)] * 4
    + [("add_group", 7)] * 5
    + [("remove_group", 5), ("set_gap", 3), ("place_party", 11), ("free_runs",)]
    + [("seat_groups", 31)] * 2
    + [("can_seat", 31)] * 2
    + [("seating_plan", 31)] * 4
    + [("max_seated",), ("max_seated_if_free", 3, 10), ("max_seated_if_gap", 3), ("needed_seats", 31)]
    + [("isolated_seats",), ("longest_run",), ("tightest_run", 11), ("take_seats", 3, 10, 4)]
    + [("list_groups",), ("list_taken_seats",), ("get_state",)]
)
SET_TAKERS = ("seat_groups", "can_seat", "seating_plan", "needed_seats")


def drawn_call(draw):
    if draw.random() < 0.02:
        return ("create", draw.randint(0, 4), draw.randint(0, 11), draw.randint(0, 3))
    name, *tops = draw.choice(USUAL)
    call = [name] + [draw.randint(0, top) for top in tops]
    if tops and draw.random() < 0.05:
        call[draw.randint(1, len(tops))] = draw.choice(FAR)
    if name in SET_TAKERS and draw.random() < 0.4:
        call[1] = draw.choice([1, 2, 3, 7])
    return tuple(call)


class Sessions(unittest.TestCase):
    def held(self, calls, turn):
        self.assertEqual(len(calls), 256)
        model = Model()
        for number, (call, told) in enumerate(zip(calls, ask(calls))):
            self.assertEqual(told, model.told(call), (turn, number, call))

    def test_long_sessions_are_answered_as_by_the_model(self):
        draw = random.Random(6)
        for turn in range(60):
            calls = [drawn_call(draw)]
            calls.append(("create", draw.randint(1, 3), draw.randint(3, 10), draw.randint(0, 2)))
            calls += [drawn_call(draw) for call in range(254)]
            self.held(calls, turn)

    def test_long_sessions_of_the_greatest_hall_with_five_groups(self):
        draw = random.Random(21)
        for turn in range(3):
            calls = [("create", 3, 10, turn)] + [("add_group", draw.randint(1, 6)) for group in range(5)]
            while len(calls) < 256:
                call = drawn_call(draw)
                if call[0] not in ("create", "remove_group", "seat_groups"):
                    calls.append(call)
            self.held(calls, turn)
            self.assertEqual(ask(calls[:-1] + [("get_state",)])[-1][4], 5)


if __name__ == "__main__":
    unittest.main()
