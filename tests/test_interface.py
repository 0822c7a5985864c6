"""How calls are handed in and answers given back, and that nothing is kept or changed."""

import inspect
import unittest

from rowseating import planner
from rowseating.planner import answers
from tests.helper import FAR, GREATEST, NO_PLANNER, NUMBERS, ask, hall, last, looked_at, written

# One call of each operation from 1 to 21, with numbers that would do, and with numbers that never do.
FITTING = [
    ("take_seat", 0, 0),
    ("free_seat", 0, 0),
    ("add_group", 1),
    ("remove_group", 0),
    ("set_gap", 0),
    ("seat_groups", 0),
    ("place_party", 1),
    ("free_runs",),
    ("can_seat", 0),
    ("seating_plan", 0),
    ("max_seated",),
    ("isolated_seats",),
    ("longest_run",),
    ("tightest_run", 1),
    ("needed_seats", 0),
    ("list_groups",),
    ("list_taken_seats",),
    ("max_seated_if_free", 0, 0),
    ("max_seated_if_gap", 0),
    ("take_seats", 0, 0, 1),
    ("get_state",),
]
UNFIT = [tuple([call[0]] + [GREATEST] * (len(call) - 1)) for call in FITTING]
# Operations 8 to 19 and 21, with numbers that they answer and with numbers that they refuse.
QUESTIONS = [call for call in FITTING + UNFIT if NUMBERS[call[0]] in list(range(8, 20)) + [21]]


class Unchangeable(list):
    """A list that can be read only."""

    def refuse(self, *changes):
        raise AssertionError("the list handed in is changed")

    append = clear = extend = insert = pop = remove = reverse = sort = refuse
    __setitem__ = __delitem__ = __iadd__ = __imul__ = refuse


class Form(unittest.TestCase):
    def test_answers_takes_one_list_by_the_name_calls(self):
        parameters = list(inspect.signature(planner.answers).parameters.values())
        self.assertEqual([parameter.name for parameter in parameters], ["calls"])
        self.assertIs(parameters[0].default, inspect.Parameter.empty)
        self.assertEqual(answers(calls=[0, 1, 1, 0]), [1, 0])

    def test_each_answer_stands_behind_its_length(self):
        self.assertEqual(answers([0, 1, 7, 1]), [1, 0])
        self.assertEqual(answers([0, 1, 7, 1, 8]), [1, 0, 4, 1, 0, 0, 7])
        self.assertEqual(
            answers([0, 1, 7, 1, 3, 3, 3, 2, 10, 3, 6, 3, 8]),
            [1, 0, 1, 0, 1, 1, 5, 2, 0, 0, 0, 4, 1, 5, 7, 2, 0, 3, 1, 0, 6, 1],
        )

    def test_an_error_is_answered_by_its_code_alone(self):
        self.assertEqual(answers([8]), [1, -11])
        self.assertEqual(answers([0, 4, 1, 0]), [1, -22])
        self.assertEqual(answers([0, 1, 1, 0, 7, 2, 10, 1]), [1, 0, 1, -33, 1, -22])

    def test_every_call_takes_as_many_numbers_as_its_row_tells(self):
        numbers = [0, 2, 6, 1]
        for call in FITTING:
            numbers += [NUMBERS[call[0]]] + list(call[1:])
        # Every call finds what those before it left.
        self.assertEqual(
            answers(numbers),
            [1, 0, 1, 1, 1, 0, 1, 0, 1, 0, 1, 1, 1, 0, 2, 0, 0, 7, 2, 0, 1, 5, 1, 0, 6, 1, 1, 1, 0]
            + [2, 0, 0, 1, 0, 3, 6, 1, 0, 3, 0, 1, 5, 1, 0, 1, 0, 2, 1, 0, 1, 0, 1, 0, 1, -17, 5, 2, 6, 0, 1, 0],
        )

    def test_each_call_has_the_number_of_its_operation(self):
        self.assertEqual(sorted(NUMBERS.values()), list(range(22)))
        self.assertEqual([NUMBERS[call[0]] for call in FITTING], list(range(1, 22)))

    def test_answers_are_whole_numbers_and_never_true_or_false(self):
        calls = [("create", 1, 6, 0), ("add_group", 2), ("can_seat", 1), ("can_seat", 0), ("take_seat", 0, 0)]
        calls += [("add_group", 6), ("can_seat", 2), ("seating_plan", 1), ("free_runs",), ("set_gap", 2)]
        calls += FITTING + UNFIT
        told = answers([number for call in calls for number in (NUMBERS[call[0]],) + call[1:]])
        self.assertIs(type(told), list)
        self.assertEqual({type(number) for number in told}, {int})

    def test_the_longest_list_is_answered_whole(self):
        told = ask([("create", 3, 10, 2)] * 256)
        self.assertEqual(told, [[0]] * 256)
        told = ask([("create", 3, 10, 0)] + [("free_runs",)] * 255)
        self.assertEqual(told[1:], [[3, 0, 0, 10, 1, 0, 10, 2, 0, 10]] * 255)

    def test_the_greatest_hall_is_asked_256_times(self):
        sizes = [6, 5, 4, 3, 2]
        taken = [(row, seat) for row in range(3) for seat in (1, 4, 7)]
        calls = hall(3, 10, 2, sizes, taken)
        # The free places of each row: 0, 2-3, 5-6, 8-9.
        asked = [("max_seated",), ("max_seated_if_free", 1, 4), ("max_seated_if_gap", 0), ("seating_plan", 16)]
        asked += [("list_taken_seats",), ("get_state",), ("needed_seats", 31)]
        told = [[2, 16], [7], [2], [1, 0, 2], [9, 1, 4, 7, 11, 14, 17, 21, 24, 27], [3, 10, 2, 9, 5], [28]]
        rounds = (256 - len(calls)) // len(asked)
        calls += asked * rounds
        calls += [("isolated_seats",)] * (256 - len(calls))
        self.assertEqual(len(calls), 256)
        answered = ask(calls)
        self.assertEqual(answered[15:15 + rounds * len(asked)], told * rounds)
        self.assertEqual(answered[15 + rounds * len(asked):], [[3]] * (256 - 15 - rounds * len(asked)))

    def test_every_number_may_be_as_great_as_can_be_handed_in(self):
        calls = [("create", GREATEST, GREATEST, GREATEST), ("create", 3, 10, 0)] + UNFIT
        told = ask(calls)
        self.assertEqual(
            told,
            [[-22], [0], [-2], [-2], [-22], [-2], [-22], [-22], [-22], [3, 0, 0, 10, 1, 0, 10, 2, 0, 10]]
            + [[-22], [-22], [0, 0], [0], [10, 0, 0], [-22], [-22], [0], [0], [-2], [-22], [-2], [3, 10, 0, 0, 0]],
        )

    def test_the_most_numbers_in_one_list(self):
        # 1 + 3 numbers for create and for each take_seats: 256 calls of four numbers are the longest list.
        calls = [("create", 3, 10, 1)] + [("take_seats", 0, 0, GREATEST)] * 255
        self.assertEqual(len(written(calls)), 1024)
        self.assertEqual(ask(calls), [[0]] + [[-22]] * 255)


class Questions(unittest.TestCase):
    def test_no_question_changes_anything(self):
        before = hall(2, 6, 1, [3, 2, 6], [(0, 2), (1, 5)])
        seen = looked_at(before, 2, 6)
        self.assertEqual(len({call[0] for call in QUESTIONS}), 13)
        for call in QUESTIONS:
            self.assertEqual(looked_at(before + [call] * 2, 2, 6), seen, call)
        self.assertEqual(looked_at(before + QUESTIONS, 2, 6), seen)

    def test_no_question_changes_the_answer_to_another(self):
        before = hall(2, 6, 1, [3, 2, 6], [(0, 2), (1, 5)])
        alone = [last(before + [call]) for call in QUESTIONS]
        self.assertEqual(ask(before + QUESTIONS + QUESTIONS)[len(before):], alone + alone)


class NothingIsKept(unittest.TestCase):
    CALLS = [0, 1, 7, 1, 3, 3, 3, 2, 1, 0, 6, 6, 3, 5, 2, 7, 1, 2, 0, 6, 8, 4, 0, 9, 0, 10, 0]

    def test_the_list_handed_in_is_the_same_afterwards(self):
        handed_in = list(self.CALLS)
        answers(handed_in)
        self.assertEqual(handed_in, self.CALLS)

    def test_the_list_handed_in_is_not_changed_for_a_while_either(self):
        for calls in [self.CALLS, written([("create", 2, 6, 1)] + FITTING), written([("create", 2, 6, 1)] + UNFIT)]:
            self.assertEqual(answers(Unchangeable(calls)), answers(list(calls)))

    def test_the_list_given_back_is_a_new_one(self):
        handed_in = list(self.CALLS)
        first = answers(handed_in)
        self.assertIsNot(first, handed_in)
        kept = list(first)
        first.append(5)
        self.assertEqual(answers(handed_in), kept)

    def test_a_second_time_is_as_the_first(self):
        for calls in [self.CALLS, written([("create", 2, 6, 1)] + FITTING + UNFIT), written(FITTING)]:
            first = answers(list(calls))
            self.assertEqual(answers(list(calls)), first)
            answers(written(hall(3, 10, 0, [1, 2, 3, 4, 5], [(0, 0), (2, 9)]) + FITTING))
            self.assertEqual(answers(list(calls)), first)

    def test_no_planner_is_left_for_the_next_list(self):
        ask([("create", 3, 10, 0), ("add_group", 1), ("take_seat", 0, 0)])
        for call in FITTING + UNFIT:
            self.assertEqual(ask([call]), [NO_PLANNER], call)

    def test_seats_groups_and_gap_of_an_earlier_list_are_gone(self):
        ask([("create", 2, 6, 2), ("add_group", 5), ("take_seat", 1, 3), ("take_seat", 0, 0)])
        told = ask([("create", 2, 6, 0), ("free_runs",), ("add_group", 1), ("set_gap", 1)])
        self.assertEqual(told, [[0], [2, 0, 0, 6, 1, 0, 6], [0], [0]])
        told = ask([("create", 2, 6, 0), ("get_state",), ("list_groups",), ("list_taken_seats",), ("max_seated",)])
        self.assertEqual(told, [[0], [2, 6, 0, 0, 0], [0], [0], [0, 0]])


class WithoutPlanner(unittest.TestCase):
    def test_every_operation_but_create_answers_11(self):
        for call in FITTING:
            self.assertEqual(last([call]), NO_PLANNER, call)

    def test_it_is_checked_before_every_other_error(self):
        for call in UNFIT:
            self.assertEqual(last([call]), NO_PLANNER, call)
        for call in [("add_group", 0), ("place_party", 0), ("set_gap", 3), ("seat_groups", 1), ("remove_group", 0)]:
            self.assertEqual(last([call]), NO_PLANNER, call)
        for call in [("tightest_run", 0), ("needed_seats", 1), ("max_seated_if_gap", 3), ("take_seats", 0, 0, 0)]:
            self.assertEqual(last([call]), NO_PLANNER, call)

    def test_also_after_create_has_failed(self):
        for failing in [("create", 0, 1, 0), ("create", 1, 11, 0), ("create", 3, 10, 3), ("create", GREATEST, 1, 0)]:
            told = ask([failing] + FITTING + UNFIT)
            self.assertEqual(told, [[-22]] + [NO_PLANNER] * 42, failing)

    def test_a_later_create_ends_it(self):
        told = ask([("free_runs",), ("create", 0, 5, 0), ("free_runs",), ("create", 1, 5, 0), ("free_runs",)])
        self.assertEqual(told, [[-11], [-22], [-11], [0], [1, 0, 0, 5]])

    def test_what_was_refused_without_a_planner_leaves_nothing(self):
        self.assertEqual(
            looked_at(FITTING + [("create", 1, 6, 1)], 1, 6),
            looked_at([("create", 1, 6, 1)], 1, 6),
        )


class Create(unittest.TestCase):
    def test_every_size_in_range(self):
        for rows in (1, 2, 3):
            for seats in range(1, 11):
                for gap in (0, 1, 2):
                    told = ask([("create", rows, seats, gap), ("free_runs",), ("add_group", 1), ("set_gap", 0)])
                    runs = [number for row in range(rows) for number in (row, 0, seats)]
                    self.assertEqual(told, [[0], [rows] + runs, [0], [gap]])
                    told = ask([("create", rows, seats, gap), ("get_state",), ("list_groups",), ("list_taken_seats",)])
                    self.assertEqual(told, [[0], [rows, seats, gap, 0, 0], [0], [0]])

    def test_each_argument_outside_its_range(self):
        for rows in (0, 4) + FAR:
            self.assertEqual(ask([("create", rows, 5, 1)]), [[-22]], rows)
        for seats in (0,) + FAR:
            self.assertEqual(ask([("create", 2, seats, 1)]), [[-22]], seats)
        for gap in (3, 4) + FAR:
            self.assertEqual(ask([("create", 2, 5, gap)]), [[-22]], gap)

    def test_several_arguments_outside_their_ranges(self):
        for call in [(0, 0, 0), (0, 0, 3), (4, 11, 0), (4, 5, 3), (2, 11, 3), (4, 11, 3), (GREATEST,) * 3]:
            self.assertEqual(ask([("create",) + call]), [[-22]], call)

    def test_a_new_planner_replaces_seats_groups_and_gap(self):
        before = [("create", 2, 6, 2), ("add_group", 4), ("add_group", 2), ("take_seat", 0, 1), ("take_seat", 1, 5)]
        self.assertEqual(
            looked_at(before + [("create", 3, 7, 1)], 3, 7),
            looked_at([("create", 3, 7, 1)], 3, 7),
        )
        self.assertEqual(last(before + [("create", 2, 6, 2), ("add_group", 3)]), [0])
        self.assertEqual(last(before + [("create", 2, 6, 2), ("take_seat", 0, 1)]), [1])

    def test_a_failing_create_keeps_the_planner(self):
        before = [("create", 2, 6, 2), ("add_group", 4), ("add_group", 2), ("take_seat", 0, 1), ("take_seat", 1, 5)]
        for failing in [(0, 6, 0), (4, 6, 0), (1, 0, 0), (1, 11, 0), (1, 6, 3), (GREATEST, GREATEST, GREATEST)]:
            told = ask(before + [("create",) + failing])
            self.assertEqual(told[-1], [-22])
            self.assertEqual(
                looked_at(before + [("create",) + failing], 2, 6), looked_at(before, 2, 6), failing
            )


if __name__ == "__main__":
    unittest.main()
