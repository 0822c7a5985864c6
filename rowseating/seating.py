"""Which group sets can be seated in given runs, the one with the most people, and the seating plan."""


class Place:
    def __init__(self, group, row, first):
        self.group = group
        self.row = row
        self.first = first


# The numbers of the groups of a set, in increasing order.
def members(group_set):
    return [group for group in range(group_set.bit_length()) if (group_set >> group) & 1 == 1]


def count_people(sizes, group_set):
    return sum([sizes[group] for group in members(group_set)])


def needed_in_one_run(sizes, gap, group_set):
    if group_set == 0:
        return 0
    return count_people(sizes, group_set) + (len(members(group_set)) - 1) * gap


# The greatest part of the set that the run has seats for while the rest can be seated later, or None.
def greatest_part(group_set, length, needed, later):
    for part in range(group_set, -1, -1):
        if part & group_set == part and needed[part] <= length and later[group_set - part] is not None:
            return part
    return None


# For each run, and once more behind the last one, a list by group set: which part of the set
# the seating plan seats in this run if no earlier run is used, or None if the set has no room from here on.
def parts_by_run(runs, sizes, gap):
    set_count = 1 << len(sizes)
    needed = [needed_in_one_run(sizes, gap, group_set) for group_set in range(set_count)]
    later = [0] + [None] * (set_count - 1)
    tables = [later]
    for run in reversed(runs):
        later = [greatest_part(group_set, run.length, needed, later) for group_set in range(set_count)]
        tables.append(later)
    tables.reverse()
    return tables


def is_seatable(runs, sizes, gap, group_set):
    return parts_by_run(runs, sizes, gap)[0][group_set] is not None


# Of the sets that can be seated, the one with the most people; of several such, the smallest bit mask.
def find_fullest_set(runs, sizes, gap):
    fullest = 0
    for group_set, part in enumerate(parts_by_run(runs, sizes, gap)[0]):
        if part is not None and count_people(sizes, group_set) > count_people(sizes, fullest):
            fullest = group_set
    return fullest


# The places of the seating plan in the order of group numbers, or None if the set can't be seated.
def find_places(runs, sizes, gap, group_set):
    tables = parts_by_run(runs, sizes, gap)
    if tables[0][group_set] is None:
        return None
    places = []
    remaining = group_set
    for number, run in enumerate(runs):
        part = tables[number][remaining]
        places.extend(find_places_in_run(run, sizes, gap, part))
        remaining -= part
    return sorted(places, key=lambda place: place.group)


def find_places_in_run(run, sizes, gap, part):
    places = []
    seat = run.first
    for group in members(part):
        places.append(Place(group, run.row, seat))
        seat += sizes[group] + gap
    return places
