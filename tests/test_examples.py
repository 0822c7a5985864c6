"""The examples of the document, block by block."""

import unittest

from tests.helper import ask

GROUPS = [
    (("create", 1, 7, 1), [0]),
    (("add_group", 3), [0]),
    (("add_group", 2), [1]),
    (("add_group", 2), [2]),
    (("needed_seats", 3), [6]),
    (("can_seat", 3), [1]),
    (("can_seat", 7), [0]),
    (("max_seated",), [5, 3]),
    (("seating_plan", 3), [2, 0, 0, 0, 4]),
    (("seat_groups", 3), [5]),
    (("free_runs",), [2, 0, 3, 1, 0, 6, 1]),
    (("list_groups",), [1, 2]),
]
PARTIES = [
    (("create", 1, 7, 1), [0]),
    (("take_seat", 0, 2), [1]),
    (("tightest_run", 2), [0, 0, 2]),
    (("place_party", 2), [0, 0]),
    (("longest_run",), [4, 0, 3]),
    (("isolated_seats",), [0]),
    (("take_seats", 0, 3, 2), [5]),
]
ERRORS = [
    (("create", 1, 3, 0), [0]),
    (("take_seat", 0, 0), [1]),
    (("take_seat", 0, 0), [-17]),
    (("free_seat", 0, 1), [-17]),
    (("seat_groups", 1), [-22]),
    (("place_party", 3), [-33]),
    (("take_seats", 0, 2, 2), [-22]),
]


class Examples(unittest.TestCase):
    def held(self, block):
        self.assertEqual(ask([call for call, answer in block]), [answer for call, answer in block])

    def test_groups(self):
        self.held(GROUPS)

    def test_single_parties(self):
        self.held(PARTIES)

    def test_errors(self):
        self.held(ERRORS)


if __name__ == "__main__":
    unittest.main()
