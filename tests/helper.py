"""What the tests share: calls written by name, and the document's definitions spelled out by trying everything.

Nothing here draws on the package but its one function `answers`.
"""

import itertools

from rowseating.planner import answers

NUMBERS = {
    "create": 0,
    "take_seat": 1,
    "free_seat": 2,
    "add_group": 3,
    "remove_group": 4,
    "set_gap": 5,
    "seat_groups": 6,
    "place_party": 7,
    "free_runs": 8,
    "can_seat": 9,
    "seating_plan": 10,
    "max_seated": 11,
    "isolated_seats": 12,
    "longest_run": 13,
    "tightest_run": 14,
    "needed_seats": 15,
    "list_groups": 16,
    "list_taken_seats": 17,
    "max_seated_if_free": 18,
    "max_seated_if_gap": 19,
    "take_seats": 20,
    "get_state": 21,
}

GREATEST = 4294967295
# Far outside every range, with the numbers that a narrower word would cut to something within it.
FAR = (11, 32, 63, 255, 256, 257, 65535, 65536, 65537, 2147483647, 2147483648, 4294967294, GREATEST)

NO_PLANNER = [-11]
NOT_THERE = [-2]
ALREADY_SO = [-17]
OUT_OF_RANGE = [-22]
TOO_MANY_GROUPS = [-28]
NO_ROOM = [-33]


def written(calls):
    numbers = []
    for call in calls:
        numbers.append(NUMBERS[call[0]])
        numbers.extend(call[1:])
    return numbers


def parted(told):
    """The answers one by one, from the list in which each stands behind its length."""
    parts = []
    start = 0
    while start < len(told):
        behind = start + 1 + told[start]
        assert told[start] >= 1 and behind <= len(told), told
        parts.append(told[start + 1:behind])
        start = behind
    return parts


def ask(calls):
    """The answers to a list of calls such as ("take_seat", 0, 3), a list of numbers for each."""
    handed_in = written(calls)
    assert 1 <= len(calls) <= 256 and len(handed_in) <= 1024, "not a list that may be handed in"
    before = list(handed_in)
    told = answers(handed_in)
    assert handed_in == before, "the list handed in was changed"
    assert type(told) is list, told
    assert all(type(number) is int for number in told), told
    parts = parted(told)
    assert len(parts) == len(calls), told
    return parts


def last(calls):
    return ask(calls)[-1]


def hall(rows, seats_per_row, gap, sizes, taken=()):
    calls = [("create", rows, seats_per_row, gap)]
    calls += [("take_seat", row, seat) for row, seat in taken]
    return calls + [("add_group", size) for size in sizes]


def look(rows, seats_per_row):
    """Calls whose answers show the whole state: the free seats, the gap, and each group's size.

    They show it twice, as it is told and as it is used. The rows must be as long as the longest group, so that
    each is seated in its turn.
    """
    calls = [("get_state",), ("list_groups",), ("list_taken_seats",), ("free_runs",), ("set_gap", 0)]
    for turn in range(5):
        calls += [("free_seat", row, seat) for row in range(rows) for seat in range(seats_per_row)]
        calls.append(("seat_groups", 1))
    return calls


def looked_at(calls, rows, seats_per_row):
    """What `look` shows behind these calls, however many there were."""
    return ask(calls + look(rows, seats_per_row))[len(calls):]


def waiting_sizes(calls, rows, seats_per_row):
    """The sizes of the groups that wait behind these calls."""
    told = zip(look(rows, seats_per_row), looked_at(calls, rows, seats_per_row))
    return [answer[0] for call, answer in told if call[0] == "seat_groups" and answer != OUT_OF_RANGE]


def runs_of(rows, seats_per_row, taken):
    """All runs as (row, first, length): the stretches of free seats that can't be extended."""
    runs = []
    for row in range(rows):
        for first in range(seats_per_row):
            for behind in range(first + 1, seats_per_row + 1):
                free = all((row, seat) not in taken for seat in range(first, behind))
                left_end = first == 0 or (row, first - 1) in taken
                right_end = behind == seats_per_row or (row, behind) in taken
                if free and left_end and right_end:
                    runs.append((row, first, behind - first))
    return runs


def members(group_set):
    return [group for group in range(5) if group_set >> group & 1]


def needed(sizes, gap, groups):
    return sum(sizes[group] for group in groups) + max(len(groups) - 1, 0) * gap


def fits(lengths, sizes, gap, groups):
    """Whether the groups can be distributed over runs of these lengths, tried in every way."""
    for chosen in itertools.product(range(len(lengths)), repeat=len(groups)):
        shares = [[] for length in lengths]
        for group, run in zip(groups, chosen):
            shares[run].append(group)
        if all(needed(sizes, gap, share) <= length for share, length in zip(shares, lengths)):
            return True
    return False


def most_seated(runs, sizes, gap):
    """The most people of a set that can be seated, and the smallest set of so many, by trying every set."""
    lengths = [run[2] for run in runs]
    tried = []
    for mask in range(1 << len(sizes)):
        groups = members(mask)
        tried.append((-sum(sizes[group] for group in groups), mask, groups))
    for fewer, mask, groups in sorted(tried):
        if fits(lengths, sizes, gap, groups):
            return [-fewer, mask]


def plan(runs, sizes, gap, group_set):
    """The seating plan of a set that can be seated, word by word from its definition."""
    places = {}
    remaining = members(group_set)
    for number, (row, first, length) in enumerate(runs):
        later = [run[2] for run in runs[number + 1:]]
        for mask in range(31, -1, -1):
            part = members(mask)
            if not set(part) <= set(remaining) or needed(sizes, gap, part) > length:
                continue
            rest = [group for group in remaining if group not in part]
            if fits(later, sizes, gap, rest):
                break
        remaining = rest
        seat = first
        for group in part:
            places[group] = (row, seat)
            seat += sizes[group] + gap
    return [places[group] for group in members(group_set)]


def can_sit(runs, sizes, gap, groups):
    """Whether seats can be assigned one group after another, by trying every place of every run."""

    def go_on(left, placed):
        if not left:
            return True
        size = sizes[left[0]]
        for number, (row, first, length) in enumerate(runs):
            for seat in range(first, first + length - size + 1):
                apart = all(
                    number != other or seat >= start + people + gap or start >= seat + size + gap
                    for other, start, people in placed
                )
                if apart and go_on(left[1:], placed + [(number, seat, size)]):
                    return True
        return False

    return go_on(list(groups), [])
