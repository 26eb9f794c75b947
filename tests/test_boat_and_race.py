"""Promise 2: boat and race."""

import unittest

from tests.helper import LARGEST, RACE, ask, ask_behind, boat, finish, fleet, note, start


class Boat(unittest.TestCase):
    def test_ratings(self):
        wanted = {0: -22, 1: -22, 499: -22, 500: 0, 501: 0, 1999: 0, 2000: 0, 2001: -22, LARGEST: -22}
        for rating, answer in wanted.items():
            with self.subTest(rating=rating):
                self.assertEqual(ask([start(), boat(rating)]), [0, answer])

    def test_numbers_from_0_to_31(self):
        self.assertEqual(ask([start()] + [boat(500 + k) for k in range(32)]), [0] + list(range(32)))

    def test_boats_alike_are_boats_of_their_own(self):
        self.assertEqual(ask([start(), boat(700), boat(700)]), [0, 0, 1])

    def test_refused_boat_takes_no_number(self):
        self.assertEqual(ask([start(), boat(499), boat(500), boat(2001), boat(2000)]), [0, -22, 0, -22, 1])
        self.assertEqual(ask([start(), RACE, boat(499), finish(0, 0, 1)]), [0, 0, -22, -2])

    def test_33rd_boat(self):
        before = fleet(*[1000] * 32)
        self.assertEqual(
            ask_behind(before, [boat(), boat(500), boat(2000), finish(0, 32, 100), finish(0, 31, 100)]),
            [-28, -28, -28, -2, 1],
        )

    def test_wrong_rating_is_told_ahead_of_no_room(self):
        before = fleet(*[1000] * 32)
        self.assertEqual(
            ask_behind(before, [boat(499), boat(2001), boat(0), boat(LARGEST), boat(1000)]),
            [-22, -22, -22, -22, -28],
        )


class Race(unittest.TestCase):
    def test_numbers_from_0_to_19(self):
        self.assertEqual(ask([start()] + [RACE] * 20), [0] + list(range(20)))

    def test_21st_race(self):
        before = fleet(1000, races=20)
        self.assertEqual(
            ask_behind(before, [RACE, RACE, finish(20, 0, 100), finish(19, 0, 100)]),
            [-28, -28, -2, 1],
        )

    def test_boats_and_races_are_counted_apart(self):
        self.assertEqual(ask([start(), RACE, boat(), RACE, RACE, boat()]), [0, 0, 0, 1, 2, 1])

    def test_boats_fit_beside_all_races_and_races_beside_all_boats(self):
        self.assertEqual(ask_behind(fleet(races=20), [boat()]), [0])
        self.assertEqual(ask_behind(fleet(*[1000] * 32, races=0), [RACE]), [0])


class NewRaceOrBoat(unittest.TestCase):
    def test_nothing_is_told_in_a_new_race(self):
        before = fleet(1000, 1000) + [finish(0, 0, 100), RACE]
        self.assertEqual(ask_behind(before, [finish(1, 1, 200)]), [1])

    def test_new_race_and_new_boat_leave_what_was_told(self):
        before = fleet(1000, 1000) + [finish(0, 0, 100), RACE, boat()]
        self.assertEqual(ask_behind(before, [finish(0, 1, 200)]), [2])

    def test_late_boat_has_nothing_told_of_it_in_earlier_races(self):
        before = fleet(1000, 1000, races=2) + [finish(0, 0, 100), boat(500)]
        self.assertEqual(ask_behind(before, [finish(0, 1, 200)]), [2])
        self.assertEqual(ask_behind(before, [finish(1, 1, 200)]), [1])

    def test_late_boat_may_finish_in_earlier_races(self):
        before = fleet(1000, 1000, races=2) + [finish(0, 0, 100), finish(0, 1, 300)]
        self.assertEqual(
            ask_behind(before, [finish(0, 2, 200), boat(), finish(0, 2, 200), finish(1, 2, 50), finish(0, 1, 300)]),
            [-2, 2, 2, 1, 3],
        )

    def test_late_boat_may_be_noted_in_earlier_races(self):
        before = fleet(1000)
        self.assertEqual(ask_behind(before, [note(0, 1, 4), boat(), note(0, 1, 4)]), [-2, 1, 0])


if __name__ == "__main__":
    unittest.main()
