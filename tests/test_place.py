"""Promise 7: place, and who is before whom."""

import unittest

from tests.helper import LARGEST, RACE, alike, ask, ask_behind, ask_lists, ask_places, boat, finish, fleet, note, place
from tests.helper import sail, start, total


class PlaceRefused(unittest.TestCase):
    def test_no_such_boat(self):
        self.assertEqual(ask([start(), place(0)]), [0, -2])
        self.assertEqual(ask([start(), RACE, place(0)]), [0, 0, -2])
        for number in [3, 4, 32, LARGEST]:
            with self.subTest(number=number):
                self.assertEqual(ask_behind(alike(3, races=2), [place(number)]), [-2])
        self.assertEqual(ask_behind(alike(3, races=2), [place(2)]), [1])

    def test_none_any_more_behind_a_new_start(self):
        self.assertEqual(ask_behind(alike(3) + [start()], [place(0)]), [-2])


class Place(unittest.TestCase):
    def check_alike_totals(self, before, boats):
        totals = ask_lists(before, [total(number) for number in boats])
        self.assertEqual(len(set(answer[0] for answer in totals)), 1, totals)

    def test_one_boat(self):
        self.assertEqual(ask_places(alike(1, races=0), 1), [1])
        self.assertEqual(ask_places(alike(1, races=3), 1), [1])
        self.assertEqual(ask_places(alike(1, races=3, limits=(1, 2, 3)) + sail(0, [0]), 1), [1])

    def test_all_level(self):
        self.assertEqual(ask_places(alike(32, races=0), 32), [1] * 32)
        self.assertEqual(ask_places(alike(32, races=20), 32), [1] * 32)
        self.assertEqual(ask_places(alike(4, races=2) + sail(0, range(4)) + sail(1, range(4)), 4), [1] * 4)

    def test_by_the_total(self):
        before = alike(4) + sail(0, [2], [0], [3], [1])
        self.assertEqual(ask_places(before, 4), [2, 4, 1, 3])

    def test_by_the_total_though_the_best_and_the_last_race_say_otherwise(self):
        before = alike(4, races=2) + sail(0, [2], [1], [3], [0]) + sail(1, [0], [1], [2], [3])
        self.assertEqual(ask_places(before, 4), [3, 2, 1, 4])

    def test_by_the_total_of_what_is_kept(self):
        races = sail(0, [0], [2], [1]) + sail(1, [0], [2], [1]) + sail(2, [1], [2], [0])
        self.assertEqual(ask_places(alike(3, races=3) + races, 3), [1, 3, 2])
        self.assertEqual(ask_places(alike(3, races=3, limits=(1, 3, 0)) + races, 3), [2, 1, 3])

    def test_totals_one_half_point_apart(self):
        before = alike(3, races=2) + sail(0, [0], [1], [2]) + sail(1, [1, 2], [0])
        self.assertEqual(ask_lists(before, [total(0), total(1), total(2)]), [[80, 0], [70, 0], [90, 0]])
        self.assertEqual(ask_places(before, 3), [2, 1, 3])

    def test_totals_a_tenth_apart(self):
        before = alike(4, races=4) + sail(0, [0, 1]) + sail(1, [0, 1]) + sail(2, [1], [0])
        before += [finish(3, 1, 100), finish(3, 2, 100), finish(3, 3, 100), note(3, 0, 7)]
        self.assertEqual(ask_lists(before, [total(0), total(1)]), [[134, 0], [120, 0]])
        self.assertEqual(ask_places(before, 2), [2, 1])

    def test_two_level_at_the_front(self):
        before = alike(4) + sail(0, [1, 3], [0], [2])
        self.assertEqual(ask_places(before, 4), [3, 1, 4, 1])

    def test_level_in_the_midst_and_at_the_end(self):
        self.assertEqual(ask_places(alike(5) + sail(0, [4], [1, 2, 3], [0]), 5), [5, 2, 2, 2, 1])
        self.assertEqual(ask_places(alike(5) + sail(0, [4]), 5), [2, 2, 2, 2, 1])

    def test_the_least_points_decide_where_totals_are_alike(self):
        before = alike(3, races=2) + sail(0, [0], [1], [2]) + sail(1, [2], [1], [0])
        self.check_alike_totals(before, range(3))
        self.assertEqual(ask_places(before, 3), [2, 3, 1])

    def test_the_least_points_decide_ahead_of_the_last_race(self):
        before = alike(4, races=2) + sail(0, [0], [1], [3], [2]) + sail(1, [2], [1], [0], [3])
        self.check_alike_totals(before, [0, 1])
        self.assertEqual(ask_places(before, 2), [1, 2])

    def test_the_second_least_points_decide_where_the_least_are_alike(self):
        before = alike(6, races=3)
        before += sail(0, [0, 1], [2], [3], [4], [5])
        before += sail(1, [2], [0], [1], [3], [4], [5])
        before += sail(2, [2], [3], [1], [0], [4], [5])
        self.check_alike_totals(before, [0, 1])
        self.assertEqual(ask_places(before, 3), [2, 3, 1])

    def test_the_races_left_out_do_not_count_among_the_least(self):
        # In the race left out boat 1 has less, but the races kept are alike and the last one decides.
        before = alike(5, races=3, limits=(3, 0, 0))
        before += sail(0, [2], [3], [4], [1], [0])
        before += sail(1, [1], [0], [2], [3], [4])
        before += sail(2, [0], [1], [2], [3], [4])
        self.assertEqual(ask_lists(before, [total(0), total(1)]), [[60, 1], [60, 1]])
        self.assertEqual(ask_places(before, 5)[:3], [1, 2, 3])

    def test_a_race_struck_out_for_good_counts_among_those_kept(self):
        # Both keep one race of 1 point and one of 5; what boat 0 leaves out is less, but no race kept.
        before = alike(4, races=3, limits=(3, 0, 0)) + [note(0, 0, 6)] + sail(1, [0]) + sail(2, [1], [2], [0])
        self.assertEqual(ask_lists(before, [total(0), total(1)]), [[120, 4], [120, 1]])
        self.assertEqual(ask_places(before, 4), [2, 1, 3, 4])

    def test_races_alike_in_another_order(self):
        before = alike(2, races=2) + sail(0, [0], [1]) + sail(1, [1], [0])
        self.check_alike_totals(before, range(2))
        self.assertEqual(ask_places(before, 2), [2, 1])

    def test_the_race_before_decides_where_the_last_is_alike(self):
        before = alike(2, races=3) + sail(0, [0], [1]) + sail(1, [1], [0]) + sail(2, [0, 1])
        self.assertEqual(ask_places(before, 2), [2, 1])

    def test_the_races_are_gone_through_from_the_last(self):
        before = alike(2, races=4) + sail(0, [0], [1]) + sail(1, [0], [1]) + sail(2, [1], [0]) + sail(3, [1], [0])
        self.assertEqual(ask_places(before, 2), [2, 1])
        before = alike(2, races=4) + sail(0, [0], [1]) + sail(1, [1], [0]) + sail(2, [1], [0]) + sail(3, [0], [1])
        self.assertEqual(ask_places(before, 2), [1, 2])

    def test_two_races_far_before_the_last_decide(self):
        before = alike(2, races=20) + sail(0, [0], [1]) + sail(1, [1], [0])
        self.assertEqual(ask_places(before, 2), [2, 1])

    def test_the_last_race_decides_though_both_leave_it_out(self):
        before = alike(3, races=2, limits=(2, 0, 0)) + sail(0, [0, 1], [2]) + sail(1, [2], [1], [0])
        self.assertEqual(ask_lists(before, [total(0), total(1)]), [[30, 2], [30, 2]])
        self.assertEqual(ask_places(before, 3), [3, 2, 1])

    def test_the_last_race_decides_though_one_leaves_it_out(self):
        before = alike(2, races=2, limits=(2, 0, 0)) + sail(0, [0], [1]) + sail(1, [1], [0])
        self.assertEqual(ask_lists(before, [total(0), total(1)]), [[20, 2], [20, 1]])
        self.assertEqual(ask_places(before, 2), [2, 1])

    def test_the_first_race_decides_though_both_leave_it_out(self):
        before = alike(4, races=3, limits=(3, 0, 0))
        before += sail(0, [2], [3], [1], [0]) + sail(1, [0, 1], [2]) + sail(2, [0, 1], [2])
        self.assertEqual(ask_lists(before, [total(0), total(1)]), [[60, 1], [60, 1]])
        self.assertEqual(ask_places(before, 2), [2, 1])

    def test_every_race_left_out(self):
        before = alike(3, races=3, limits=(1, 2, 3)) + sail(0, [0], [1], [2]) + sail(1, [2], [0, 1])
        self.assertEqual(ask_lists(before, [total(k) for k in range(3)]), [[0, 7], [0, 7], [0, 7]])
        self.assertEqual(ask_places(before, 3), [2, 3, 1])

    def test_alike_in_every_race_are_level(self):
        before = alike(4, races=2) + sail(0, [0, 1], [2, 3]) + sail(1, [2, 3], [0, 1])
        self.assertEqual(ask_places(before, 4), [3, 3, 1, 1])

    def test_points_decide_and_not_what_is_told(self):
        before = alike(4, races=2) + [note(0, 0, 2), note(0, 1, 3), note(0, 2, 4), note(0, 3, 5)]
        self.assertEqual(ask_places(before, 4), [1, 1, 1, 1])

    def test_ratings_do_not_decide(self):
        before = fleet(2000, 500, 1000) + [finish(0, 0, 50), finish(0, 1, 200), finish(0, 2, 100)]
        self.assertEqual(ask_places(before, 3), [1, 1, 1])

    def test_struck_out_for_good_is_behind_struck_out(self):
        before = alike(3, races=2, limits=(2, 0, 0)) + sail(0, [0], [1], [2]) + [note(1, 0, 6), note(1, 1, 5)]
        self.assertEqual(ask_places(before, 3), [3, 1, 2])

    def test_every_race_struck_out_for_good(self):
        before = alike(3, races=3, limits=(1, 2, 3)) + [note(race, 0, 6) for race in range(3)]
        self.assertEqual(ask_places(before, 3), [3, 1, 1])

    def test_a_late_boat(self):
        before = alike(2, races=2) + sail(0, [0], [1]) + sail(1, [0], [1]) + [boat()]
        self.assertEqual(ask_places(before, 3), [1, 2, 3])
        self.assertEqual(ask_places(before + [finish(0, 2, 50), finish(1, 2, 50)], 3), [2, 3, 1])

    def test_32_boats(self):
        before = alike(32, races=20)
        for race in range(20):
            before += sail(race, *[[31 - k] for k in range(32)])
        self.assertEqual(ask_places(before, 32), list(range(32, 0, -1)))


if __name__ == "__main__":
    unittest.main()
