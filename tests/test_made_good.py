"""Promise 5: points in races that are made good."""

import unittest

from tests.helper import RACE, alike, ask_behind, ask_points, boat, finish, note, points, sail


def sailed(places):
    """Boat 0 has these places, in twentieths, in the races from 0 on; the last race is made good to it."""
    calls = alike(6, races=len(places) + 1)
    for race, wanted in enumerate(places):
        ahead = list(range(1, wanted // 20))
        level = [0, 5] if wanted % 20 == 10 else [0]
        calls += sail(race, ahead, level)
    return calls + [note(len(places), 0, 7)]


class MadeGood(unittest.TestCase):
    def check(self, places, wanted):
        with self.subTest(places=places):
            before = sailed(places)
            asked = [points(race, 0) for race in range(len(places) + 1)]
            self.assertEqual(ask_behind(before, asked), places + [wanted])

    def test_no_rounding(self):
        self.check([40], 40)
        self.check([20, 40], 30)
        self.check([20, 20, 20], 20)
        self.check([20, 20, 20, 40, 30], 26)
        self.check([20, 30, 30, 30, 30], 28)

    def test_rounded_down(self):
        self.check([20, 20, 40], 26)
        self.check([20, 20, 20, 30], 22)
        self.check([60, 60, 60, 60, 60, 60, 70], 62)

    def test_rounded_up(self):
        self.check([20, 40, 40], 34)
        self.check([20, 30, 30, 30], 28)
        self.check([60, 70, 70, 70, 70, 70, 70], 68)

    def test_just_at_the_half(self):
        self.check([20, 30], 26)
        self.check([30, 40], 36)
        self.check([40, 50], 46)
        self.check([50, 60], 56)
        self.check([20, 20, 20, 20, 20, 30, 30, 30, 30, 30], 26)

    def test_beside_the_half(self):
        self.check([20] * 6 + [30] * 5, 24)
        self.check([20] * 5 + [30] * 6, 26)

    def test_19_races(self):
        self.check([20] * 18 + [30], 20)
        self.check([20] * 17 + [30] * 2, 22)
        self.check([20] * 9 + [120] * 10, 72)

    def test_several_races(self):
        before = alike(4, races=5) + sail(0, [0], [1]) + sail(2, [1], [0]) + sail(4, [1, 2], [0])
        before += [note(1, 0, 7), note(3, 0, 7)]
        asked = [points(race, 0) for race in range(5)]
        self.assertEqual(ask_behind(before, asked), [20, 40, 40, 40, 60])
        self.assertEqual(ask_behind(before + [note(4, 0, 7)], asked), [20, 30, 40, 30, 30])
        self.assertEqual(ask_behind(before + [note(0, 0, 7)], asked), [50, 50, 40, 50, 60])

    def test_nothing_else_told(self):
        before = alike(3, races=3) + [note(1, 0, 7)]
        self.assertEqual(ask_behind(before, [points(race, 0) for race in range(3)]), [80, 80, 80])

    def test_races_of_which_nothing_is_told_count(self):
        before = alike(3, races=3) + sail(0, [0]) + [note(1, 0, 7)]
        self.assertEqual(ask_behind(before, [points(race, 0) for race in range(3)]), [20, 50, 80])

    def test_every_race(self):
        before = alike(3, races=4) + [note(race, 0, 7) for race in range(4)]
        self.assertEqual(ask_behind(before, [points(race, 0) for race in range(4)]), [80, 80, 80, 80])

    def test_the_only_race(self):
        for boats in [1, 2, 32]:
            with self.subTest(boats=boats):
                before = alike(boats) + [note(0, 0, 7)]
                self.assertEqual(ask_behind(before, [points(0, 0)]), [20 * boats + 20])

    def test_unfinished_races_count(self):
        for kind in [0, 2, 3, 4, 5, 6]:
            with self.subTest(kind=kind):
                before = alike(4, races=3) + sail(0, [0]) + [note(1, 0, kind), note(2, 0, 7)]
                self.assertEqual(ask_behind(before, [points(2, 0)]), [60])

    def test_fined_races_count_with_the_fine(self):
        before = alike(8, races=3) + [finish(0, 0, 100, 1), finish(1, 0, 100), note(2, 0, 7)]
        self.assertEqual(ask_behind(before, [points(2, 0)]), [40])

    def test_a_fine_past_the_last_counts_as_the_last(self):
        before = alike(3, races=3) + sail(0, [1], [2]) + [finish(0, 0, 200, 1)] + sail(1, [0]) + [note(2, 0, 7)]
        self.assertEqual(ask_behind(before, [points(0, 0), points(2, 0)]), [80, 50])

    def test_level_and_fined_races_together(self):
        before = alike(5, races=3) + sail(0, [0, 1]) + [finish(1, 0, 100, 1), finish(1, 1, 100), note(2, 0, 7)]
        self.assertEqual(ask_behind(before, [points(0, 0), points(1, 0), points(2, 0)]), [30, 50, 40])

    def test_races_left_out_count(self):
        before = alike(4, races=4, limits=(1, 2, 3)) + sail(0, [0]) + sail(1, [0]) + [note(2, 0, 7)]
        self.assertEqual(ask_behind(before, [points(2, 0)]), [46])

    def test_for_one_boat_alone(self):
        before = alike(3, races=2) + sail(0, [0], [1], [2]) + sail(1, [0], [1], [2]) + [note(1, 1, 7)]
        self.assertEqual(ask_points(before, 1, 3), [20, 40, 40])
        self.assertEqual(ask_points(before + [note(1, 0, 7)], 1, 3), [20, 40, 20])

    def test_two_boats_each_by_its_own_races(self):
        before = alike(3, races=3) + sail(0, [0], [1], [2]) + sail(1, [1], [2], [0]) + [note(2, 0, 7), note(1, 1, 7)]
        self.assertEqual(ask_points(before, 0, 3), [20, 40, 60])
        self.assertEqual(ask_points(before, 1, 3), [40, 60, 20])
        self.assertEqual(ask_points(before, 2, 3), [30, 80, 80])

    def test_what_is_told_later_counts(self):
        before = alike(3, races=2) + sail(0, [0]) + sail(1, [1], [0]) + [note(1, 0, 7)]
        self.assertEqual(ask_behind(before, [points(1, 0), points(1, 1)]), [20, 20])
        self.assertEqual(ask_behind(before + [note(1, 0, 5)], [points(1, 0), points(1, 1)]), [80, 20])
        self.assertEqual(ask_behind(before + [finish(1, 0, 50)], [points(1, 0), points(1, 1)]), [20, 40])

    def test_new_races_and_boats_count(self):
        before = alike(2, races=2) + sail(0, [0]) + [note(1, 0, 7)]
        self.assertEqual(
            ask_behind(before, [points(1, 0), RACE, points(1, 0), boat(), points(1, 0), note(2, 0, 7), points(1, 0)]),
            [20, 2, 40, 2, 50, 0, 20],
        )


if __name__ == "__main__":
    unittest.main()
