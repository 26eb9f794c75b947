"""Promise 5: points of boats that finished, were fined, or did not finish."""

import unittest

from tests.helper import (
    LARGEST, RACE, alike, ask, ask_behind, ask_points, boat, finish, fleet, note, points, sail, start,
)

# The fine for each of these numbers of boats, in points.
FINES = {1: 0, 2: 0, 3: 1, 4: 1, 5: 1, 6: 1, 7: 1, 8: 2, 10: 2, 12: 2, 13: 3, 17: 3, 18: 4, 27: 5, 28: 6, 32: 6}


class PointsRefused(unittest.TestCase):
    def test_none_at_all(self):
        self.assertEqual(ask([start(), points(0, 0)]), [0, -2])
        self.assertEqual(ask([start(), RACE, points(0, 0)]), [0, 0, -2])
        self.assertEqual(ask([start(), boat(), points(0, 0)]), [0, 0, -2])

    def test_no_such_race_or_boat(self):
        before = alike(3, races=2)
        for race, number in [(2, 0), (LARGEST, 0), (0, 3), (0, LARGEST), (2, 3), (2, 2), (LARGEST, LARGEST)]:
            with self.subTest(race=race, number=number):
                self.assertEqual(ask_behind(before, [points(race, number)]), [-2])
        self.assertEqual(ask_behind(before, [points(1, 2)]), [80])

    def test_none_any_more_behind_a_new_start(self):
        self.assertEqual(ask_behind(alike(1) + [start()], [points(0, 0), boat(), points(0, 0)]), [-2, 0, -2])


class PointsFinished(unittest.TestCase):
    def test_alone(self):
        self.assertEqual(ask_points(alike(1) + sail(0, [0]), 0, 1), [20])
        self.assertEqual(ask_points(alike(3) + sail(0, [2]), 0, 3), [80, 80, 20])

    def test_behind_others(self):
        self.assertEqual(ask_points(alike(4) + sail(0, [2], [0], [3], [1]), 0, 4), [40, 80, 20, 60])
        self.assertEqual(
            ask_points(alike(32) + sail(0, *[[31 - k] for k in range(32)]), 0, 32),
            [20 * (32 - k) for k in range(32)],
        )

    def test_level_with_one(self):
        self.assertEqual(ask_points(alike(4) + sail(0, [0, 1], [2], [3]), 0, 4), [30, 30, 60, 80])
        self.assertEqual(ask_points(alike(4) + sail(0, [0], [1, 2], [3]), 0, 4), [20, 50, 50, 80])
        self.assertEqual(ask_points(alike(4) + sail(0, [0], [1], [2, 3]), 0, 4), [20, 40, 70, 70])

    def test_level_with_two(self):
        self.assertEqual(ask_points(alike(5) + sail(0, [0, 1, 2], [3], [4]), 0, 5), [40, 40, 40, 80, 100])
        self.assertEqual(ask_points(alike(5) + sail(0, [0], [1, 2, 3], [4]), 0, 5), [20, 60, 60, 60, 100])
        self.assertEqual(ask_points(alike(5) + sail(0, [0], [1], [2, 3, 4]), 0, 5), [20, 40, 80, 80, 80])

    def test_several_groups(self):
        self.assertEqual(
            ask_points(alike(7) + sail(0, [6, 0], [3], [1, 2, 5]), 0, 7),
            [30, 100, 100, 60, 160, 100, 30],
        )

    def test_all_level(self):
        for boats in range(1, 33):
            with self.subTest(boats=boats):
                self.assertEqual(ask_points(alike(boats) + sail(0, range(boats)), 0, boats), [10 * boats + 10] * boats)

    def test_by_seconds_times_rating(self):
        wanted = {199: [40, 20], 200: [30, 30], 201: [20, 40]}
        for seconds, answer in wanted.items():
            with self.subTest(seconds=seconds):
                before = fleet(1000, 500) + [finish(0, 0, 100), finish(0, 1, seconds)]
                self.assertEqual(ask_points(before, 0, 2), answer)

    def test_largest_times_one_apart(self):
        before = fleet(2000, 1999, 2000) + [finish(0, 0, 1000000), finish(0, 1, 1000000), finish(0, 2, 999999)]
        self.assertEqual(ask_points(before, 0, 3), [60, 20, 40])

    def test_in_whatever_order_they_are_told(self):
        told = sail(0, [2], [0, 3], [1])
        for k in range(4):
            with self.subTest(first=k):
                self.assertEqual(ask_points(alike(4) + told[k:] + told[:k], 0, 4), [50, 80, 20, 50])

    def test_each_race_by_itself(self):
        before = alike(3, races=3) + sail(0, [0], [1], [2]) + sail(2, [2], [0, 1])
        self.assertEqual(ask_points(before, 0, 3), [20, 40, 60])
        self.assertEqual(ask_points(before, 1, 3), [80, 80, 80])
        self.assertEqual(ask_points(before, 2, 3), [50, 50, 20])

    def test_those_that_did_not_finish_take_no_place(self):
        for kind in [0, 2, 3, 4, 5, 6]:
            with self.subTest(kind=kind):
                before = alike(3) + sail(0, [0], [1], [2]) + [note(0, 0, kind)]
                self.assertEqual(ask_points(before, 0, 3), [80, 20, 40])


class PointsFined(unittest.TestCase):
    def test_a_fifth_of_all_boats(self):
        for boats, fine in FINES.items():
            with self.subTest(boats=boats):
                before = alike(boats) + [finish(0, 0, 100, 1)]
                self.assertEqual(ask_points(before, 0, 1), [20 + 20 * fine])

    def test_a_fifth_of_all_boats_also_where_all_finish(self):
        for boats, fine in FINES.items():
            with self.subTest(boats=boats):
                before = alike(boats) + sail(0, *[[k] for k in range(boats)]) + [finish(0, 0, 50, 1)]
                self.assertEqual(ask_points(before, 0, 1), [20 + 20 * fine])

    def test_boats_that_came_later_count(self):
        before = alike(2) + [finish(0, 0, 100, 1)]
        self.assertEqual(ask_points(before, 0, 1), [20])
        self.assertEqual(ask_points(before + [boat()], 0, 1), [40])
        self.assertEqual(ask_points(before + [boat()] * 6, 0, 1), [60])

    def test_level_and_fined(self):
        before = alike(8) + sail(0, [0, 1], [2, 3, 4], [5])
        self.assertEqual(ask_points(before, 0, 6), [30, 30, 80, 80, 80, 120])
        self.assertEqual(ask_points(before + [finish(0, 1, 100, 1)], 0, 6), [30, 70, 80, 80, 80, 120])
        self.assertEqual(ask_points(before + [finish(0, 3, 101, 1)], 0, 6), [30, 30, 80, 120, 80, 120])

    def test_all_level_and_all_fined(self):
        before = alike(4) + [finish(0, k, 100, 1) for k in range(4)]
        self.assertEqual(ask_points(before, 0, 4), [70, 70, 70, 70])

    def test_a_fine_that_goes_past_the_last(self):
        before = alike(8) + [finish(0, k, 100 + k, 1) for k in range(8)]
        self.assertEqual(ask_points(before, 0, 8), [60, 80, 100, 120, 140, 160, 180, 180])

    def test_a_fine_for_level_ones_that_goes_past_the_last(self):
        before = alike(8) + sail(0, [0], [1], [2], [3], [4], [5]) + [finish(0, 6, 200, 1), finish(0, 7, 200, 1)]
        self.assertEqual(ask_points(before, 0, 8)[6:], [180, 180])

    def test_a_fine_of_nothing(self):
        self.assertEqual(ask_points(alike(1) + [finish(0, 0, 100, 1)], 0, 1), [20])
        self.assertEqual(ask_points(alike(2) + [finish(0, 0, 100, 1), finish(0, 1, 99)], 0, 2), [40, 20])

    def test_a_fine_does_not_change_the_points_of_others(self):
        before = alike(13) + sail(0, *[[k] for k in range(13)])
        plain = [20 * k + 20 for k in range(13)]
        for number in range(13):
            with self.subTest(number=number):
                fined = list(plain)
                fined[number] = min(plain[number] + 60, 280)
                told = finish(0, number, 100 + number, 1)
                self.assertEqual(ask_points(before + [told], 0, 13), fined)

    def test_fined_in_one_race_alone(self):
        before = alike(5, races=2) + [finish(0, 0, 100), finish(1, 0, 100, 1)]
        self.assertEqual(ask_behind(before, [points(0, 0), points(1, 0)]), [20, 40])

    def test_told_again_fined_and_not(self):
        before = alike(5)
        self.assertEqual(
            ask_behind(before, [finish(0, 0, 100, 1), points(0, 0), finish(0, 0, 100), points(0, 0)]),
            [1, 40, 1, 20],
        )

    def test_no_fine_is_left_behind_a_note(self):
        before = alike(5) + [finish(0, 0, 100, 1), note(0, 0, 4)]
        self.assertEqual(ask_behind(before, [points(0, 0), finish(0, 0, 100), points(0, 0)]), [120, 1, 20])


class PointsUnfinished(unittest.TestCase):
    def test_one_more_than_there_are_boats(self):
        for kind in [0, 2, 3, 4, 5, 6]:
            for boats in [1, 2, 5, 32]:
                with self.subTest(kind=kind, boats=boats):
                    before = alike(boats) + sail(0, range(boats)) + [note(0, boats - 1, kind)]
                    self.assertEqual(ask_behind(before, [points(0, boats - 1)]), [20 * boats + 20])

    def test_boats_that_came_later_count(self):
        for kind in [0, 2, 3, 4, 5, 6]:
            with self.subTest(kind=kind):
                before = alike(2) + [note(0, 1, kind)]
                self.assertEqual(ask_behind(before, [points(0, 1), boat(), points(0, 1)]), [60, 2, 80])

    def test_a_race_that_nobody_sailed(self):
        self.assertEqual(ask_points(alike(3), 0, 3), [80, 80, 80])
        self.assertEqual(ask_points(alike(3) + [note(0, k, 2) for k in range(3)], 0, 3), [80, 80, 80])

    def test_a_boat_that_came_late(self):
        before = alike(2, races=2) + sail(0, [0], [1]) + sail(1, [1]) + [boat(), RACE] + sail(2, [2], [0], [1])
        self.assertEqual(ask_points(before, 0, 3), [20, 40, 80])
        self.assertEqual(ask_points(before, 1, 3), [80, 20, 80])
        self.assertEqual(ask_points(before, 2, 3), [40, 60, 20])


if __name__ == "__main__":
    unittest.main()
