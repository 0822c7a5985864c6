"""The operations, each answering a list of numbers, and the table that finds them by number."""

from rowseating.runs import find_longest_run, find_runs, find_tightest_run
from rowseating.seating import count_people, find_fullest_set, find_places, is_seatable, needed_in_one_run
from rowseating.state import Planner

NO_PLANNER = -11
NOT_THERE = -2
ALREADY_SO = -17
OUT_OF_RANGE = -22
TOO_MANY_GROUPS = -28
NO_ROOM = -33

MOST_ROWS = 3
MOST_SEATS_PER_ROW = 10
GREATEST_GAP = 2
GREATEST_GROUP_SIZE = 6
GREATEST_PARTY_SIZE = 10
MOST_GROUPS = 5


def is_outside(value, least, greatest):
    return value < least or value > greatest


def create(session, rows, seats_per_row, gap):
    if is_outside(rows, 1, MOST_ROWS):
        return [OUT_OF_RANGE]
    if is_outside(seats_per_row, 1, MOST_SEATS_PER_ROW):
        return [OUT_OF_RANGE]
    if is_outside(gap, 0, GREATEST_GAP):
        return [OUT_OF_RANGE]
    session.planner = Planner(rows, seats_per_row, gap)
    return [0]


def take_seat(planner, row, seat):
    if not planner.has_seat(row, seat):
        return [NOT_THERE]
    if planner.is_taken(row, seat):
        return [ALREADY_SO]
    planner.take(row, seat, 1)
    return [planner.taken_count()]


def free_seat(planner, row, seat):
    if not planner.has_seat(row, seat):
        return [NOT_THERE]
    if not planner.is_taken(row, seat):
        return [ALREADY_SO]
    planner.vacate(row, seat)
    return [planner.taken_count()]


def add_group(planner, size):
    if is_outside(size, 1, GREATEST_GROUP_SIZE):
        return [OUT_OF_RANGE]
    if len(planner.sizes) == MOST_GROUPS:
        return [TOO_MANY_GROUPS]
    planner.sizes.append(size)
    return [len(planner.sizes) - 1]


def remove_group(planner, group):
    if group >= len(planner.sizes):
        return [NOT_THERE]
    planner.remove_groups(1 << group)
    return [len(planner.sizes)]


def set_gap(planner, gap):
    if is_outside(gap, 0, GREATEST_GAP):
        return [OUT_OF_RANGE]
    previous = planner.gap
    planner.gap = gap
    return [previous]


def seat_groups(planner, group_set):
    if not planner.has_groups(group_set):
        return [OUT_OF_RANGE]
    places = find_places(find_runs(planner), planner.sizes, planner.gap, group_set)
    if places is None:
        return [NO_ROOM]
    people = count_people(planner.sizes, group_set)
    for place in places:
        planner.take(place.row, place.first, planner.sizes[place.group])
    planner.remove_groups(group_set)
    return [people]


def place_party(planner, size):
    if is_outside(size, 1, GREATEST_PARTY_SIZE):
        return [OUT_OF_RANGE]
    run = find_tightest_run(find_runs(planner), size)
    if run is None:
        return [NO_ROOM]
    planner.take(run.row, run.first, size)
    return [run.row, run.first]


def free_runs(planner):
    runs = find_runs(planner)
    answer = [len(runs)]
    for run in runs:
        answer.extend([run.row, run.first, run.length])
    return answer


def can_seat(planner, group_set):
    if not planner.has_groups(group_set):
        return [OUT_OF_RANGE]
    if is_seatable(find_runs(planner), planner.sizes, planner.gap, group_set):
        return [1]
    return [0]


def seating_plan(planner, group_set):
    if not planner.has_groups(group_set):
        return [OUT_OF_RANGE]
    places = find_places(find_runs(planner), planner.sizes, planner.gap, group_set)
    if places is None:
        return [NO_ROOM]
    answer = [len(places)]
    for place in places:
        answer.extend([place.row, place.first])
    return answer


def max_seated(planner):
    group_set = find_fullest_set(find_runs(planner), planner.sizes, planner.gap)
    return [count_people(planner.sizes, group_set), group_set]


def isolated_seats(planner):
    return [len([run for run in find_runs(planner) if run.length == 1])]


def longest_run(planner):
    run = find_longest_run(find_runs(planner))
    if run is None:
        return [NO_ROOM]
    return [run.length, run.row, run.first]


def tightest_run(planner, size):
    if is_outside(size, 1, GREATEST_PARTY_SIZE):
        return [OUT_OF_RANGE]
    run = find_tightest_run(find_runs(planner), size)
    if run is None:
        return [NO_ROOM]
    return [run.row, run.first, run.length]


def needed_seats(planner, group_set):
    if not planner.has_groups(group_set):
        return [OUT_OF_RANGE]
    return [needed_in_one_run(planner.sizes, planner.gap, group_set)]


def list_groups(planner):
    return [len(planner.sizes)] + planner.sizes


def list_taken_seats(planner):
    return [planner.taken_count()] + planner.taken_indices()


def max_seated_if_free(planner, row, seat):
    if not planner.has_seat(row, seat):
        return [NOT_THERE]
    other = planner.twin()
    other.vacate(row, seat)
    return [max_seated(other)[0]]


def max_seated_if_gap(planner, gap):
    if is_outside(gap, 0, GREATEST_GAP):
        return [OUT_OF_RANGE]
    other = planner.twin()
    other.gap = gap
    return [max_seated(other)[0]]


def take_seats(planner, row, first, count):
    if not planner.has_seat(row, first):
        return [NOT_THERE]
    if is_outside(count, 1, planner.seats_per_row - first):
        return [OUT_OF_RANGE]
    for seat in range(first, first + count):
        if planner.is_taken(row, seat):
            return [ALREADY_SO]
    planner.take(row, first, count)
    return [planner.taken_count()]


def get_state(planner):
    return [planner.rows, planner.seats_per_row, planner.gap, planner.taken_count(), len(planner.sizes)]


# By the number of the call: the operation, and how many numbers it is given.
OPERATIONS = (
    (create, 3),
    (take_seat, 2),
    (free_seat, 2),
    (add_group, 1),
    (remove_group, 1),
    (set_gap, 1),
    (seat_groups, 1),
    (place_party, 1),
    (free_runs, 0),
    (can_seat, 1),
    (seating_plan, 1),
    (max_seated, 0),
    (isolated_seats, 0),
    (longest_run, 0),
    (tightest_run, 1),
    (needed_seats, 1),
    (list_groups, 0),
    (list_taken_seats, 0),
    (max_seated_if_free, 2),
    (max_seated_if_gap, 1),
    (take_seats, 3),
    (get_state, 0),
)
CREATE = 0


def argument_count(number):
    return OPERATIONS[number][1]


def perform(session, number, arguments):
    # Only create is given the session: it alone may be called without a planner, and puts one there.
    if number == CREATE:
        return create(session, arguments[0], arguments[1], arguments[2])
    if session.planner is None:
        return [NO_PLANNER]
    operation = OPERATIONS[number][0]
    if len(arguments) == 0:
        return operation(session.planner)
    if len(arguments) == 1:
        return operation(session.planner, arguments[0])
    if len(arguments) == 2:
        return operation(session.planner, arguments[0], arguments[1])
    return operation(session.planner, arguments[0], arguments[1], arguments[2])
