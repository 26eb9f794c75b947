"""Promise 6: total, and the races left out."""

import unittest

from tests.helper import LARGEST, RACE, alike, ask_behind, ask_lists, ask_total, boat, finish, note, points, sail, start
from tests.helper import total


def sailed(places, limits=(0, 0, 0)):
    """Boat 0 has these places among 12 boats, race by race."""
    calls = alike(12, races=len(places), limits=limits)
    for race, wanted in enumerate(places):
        calls += sail(race, range(1, wanted), [0])
    return calls


def bits(*races):
    return sum(2 ** race for race in races)


class TotalRefused(unittest.TestCase):
    def test_no_such_boat(self):
        self.assertEqual(ask_total([start()], 0), [-2])
        self.assertEqual(ask_total([start(1, 2, 3), RACE], 0), [-2])
        for number in [3, 4, 32, LARGEST]:
            with self.subTest(number=number):
                self.assertEqual(ask_total(alike(3, races=9), number), [-2])
        self.assertEqual(ask_total(alike(3), 2), [80, 0])

    def test_none_any_more_behind_a_new_start(self):
        self.assertEqual(ask_total(alike(3) + [start()], 0), [-2])


class Total(unittest.TestCase):
    def test_no_race(self):
        for limits in [(0, 0, 0), (1, 0, 0), (1, 2, 3)]:
            with self.subTest(limits=limits):
                self.assertEqual(ask_total(alike(2, races=0, limits=limits), 1), [0, 0])

    def test_one_race(self):
        self.assertEqual(ask_total(sailed([3]), 0), [60, 0])

    def test_all_points_added(self):
        before = alike(8, races=4) + sail(0, [1], [0, 2]) + [finish(1, 0, 100, 1), note(2, 0, 4), note(3, 0, 7)]
        self.assertEqual(ask_behind(before, [points(race, 0) for race in range(4)]), [50, 60, 180, 96])
        self.assertEqual(ask_total(before, 0), [386, 0])

    def test_each_boat_by_itself(self):
        before = alike(3, races=2, limits=(2, 0, 0)) + sail(0, [0], [1], [2]) + sail(1, [2], [0])
        self.assertEqual(ask_lists(before, [total(0), total(1), total(2)]), [[20, 2], [40, 2], [20, 1]])

    def test_never_left_out(self):
        for races in [1, 2, 3, 19, 20]:
            with self.subTest(races=races):
                self.assertEqual(ask_total(sailed([12] + [1] * (races - 1)), 0), [220 + 20 * races, 0])

    def test_fewer_than_one_just_so_many_and_more(self):
        places = [2, 9, 3, 7, 8, 5, 4, 6]
        worst_first = [1, 4, 3, 7, 5, 6, 2, 0]
        for limits in [(3, 5, 7), (1, 2, 3), (2, 3, 8), (6, 7, 8), (3, 5, 0), (4, 0, 0), (5, 20, 0), (7, 8, 9)]:
            for races in range(9):
                with self.subTest(limits=limits, races=races):
                    count = sum(1 for limit in limits if limit > 0 and races >= limit)
                    out = [race for race in worst_first if race < races][:count]
                    kept = [places[race] for race in range(races) if race not in out]
                    self.assertEqual(ask_total(sailed(places[:races], limits), 0), [20 * sum(kept), bits(*out)])

    def test_written_out_around_each_limit(self):
        places = [5, 1, 6, 2, 7, 3]
        wanted = {
            1: [100, 0], 2: [20, bits(0)], 3: [120, bits(2)], 4: [60, bits(0, 2)],
            5: [160, bits(2, 4)], 6: [120, bits(0, 2, 4)],
        }
        for races, answer in wanted.items():
            with self.subTest(races=races):
                self.assertEqual(ask_total(sailed(places[:races], (2, 4, 6)), 0), answer)

    def test_all_races_left_out(self):
        self.assertEqual(ask_total(sailed([4], (1, 0, 0)), 0), [0, bits(0)])
        self.assertEqual(ask_total(sailed([4, 5], (1, 2, 0)), 0), [0, bits(0, 1)])
        self.assertEqual(ask_total(sailed([4, 5, 1], (1, 2, 3)), 0), [0, bits(0, 1, 2)])

    def test_limits_of_20(self):
        self.assertEqual(ask_total(sailed([3] * 18 + [7], (20, 0, 0)), 0), [20 * 61, 0])
        self.assertEqual(ask_total(sailed([3] * 18 + [7, 1], (20, 0, 0)), 0), [20 * 55, bits(18)])
        self.assertEqual(ask_total(sailed([3] * 18 + [7, 9], (18, 19, 20)), 0), [20 * 51, bits(0, 18, 19)])

    def test_each_race_as_its_bit(self):
        for race in range(20):
            with self.subTest(race=race):
                places = [2] * 20
                places[race] = 3
                self.assertEqual(ask_total(sailed(places, (1, 0, 0)), 0), [760, bits(race)])

    def test_races_17_to_19_as_bits(self):
        self.assertEqual(ask_total(sailed([1] * 17 + [2, 4, 3], (1, 2, 3)), 0), [340, 917504])

    def test_of_like_ones_the_first(self):
        self.assertEqual(ask_total(sailed([1, 9, 3, 9], (4, 0, 0)), 0), [260, bits(1)])
        self.assertEqual(ask_total(sailed([9, 1, 9, 9], (1, 4, 0)), 0), [200, bits(0, 2)])
        self.assertEqual(ask_total(sailed([2, 5, 9, 5, 5], (1, 4, 0)), 0), [240, bits(1, 2)])
        self.assertEqual(ask_total(sailed([4] * 20, (1, 2, 3)), 0), [20 * 68, bits(0, 1, 2)])

    def test_half_points_are_told_apart(self):
        before = alike(4, races=3, limits=(3, 0, 0)) + sail(0, [1], [0]) + sail(1, [1], [0, 2]) + sail(2, [0])
        self.assertEqual(ask_total(before, 0), [60, bits(1)])

    def test_races_not_finished_are_left_out(self):
        for kind in [0, 2, 3, 4, 5]:
            with self.subTest(kind=kind):
                before = sailed([1, 2, 3], (3, 0, 0)) + [note(1, 0, kind)]
                self.assertEqual(ask_total(before, 0), [80, bits(1)])

    def test_a_fined_race_is_left_out(self):
        before = sailed([1, 3, 4], (3, 0, 0))
        self.assertEqual(ask_total(before, 0), [80, bits(2)])
        before += [finish(1, 0, 101, 1)]
        self.assertEqual(ask_behind(before, [points(1, 0)]), [100])
        self.assertEqual(ask_total(before, 0), [100, bits(1)])

    def test_a_race_that_nobody_sailed_is_left_out(self):
        self.assertEqual(ask_total(sailed([1, 2], (3, 0, 0)) + [RACE], 0), [60, bits(2)])

    def test_a_late_boat(self):
        before = alike(2, races=3, limits=(2, 4, 0)) + sail(0, [0], [1]) + [boat()] + sail(2, [2])
        self.assertEqual(ask_total(before, 2), [100, bits(0)])
        self.assertEqual(ask_total(before + [RACE] + sail(3, [0], [2]), 2), [60, bits(0, 1)])


class StruckOutForGood(unittest.TestCase):
    def test_not_left_out_where_it_has_the_most_points(self):
        before = sailed([1, 2, 3], (3, 0, 0)) + [note(0, 0, 6)]
        self.assertEqual(ask_total(before, 0), [300, bits(2)])

    def test_not_left_out_where_another_is_like_it(self):
        before = sailed([1, 2, 3], (3, 0, 0)) + [note(0, 0, 6), note(1, 0, 4)]
        self.assertEqual(ask_total(before, 0), [320, bits(1)])
        before = sailed([1, 2, 3], (3, 0, 0)) + [note(0, 0, 5), note(1, 0, 6)]
        self.assertEqual(ask_total(before, 0), [320, bits(0)])

    def test_two_left_out_beside_it(self):
        before = sailed([7, 2, 1, 6, 3], (3, 5, 0)) + [note(2, 0, 6)]
        self.assertEqual(ask_total(before, 0), [20 * (13 + 2 + 3), bits(0, 3)])

    def test_every_race(self):
        for races in [1, 3, 20]:
            with self.subTest(races=races):
                before = alike(4, races=races, limits=(1, 2, 3)) + [note(race, 0, 6) for race in range(races)]
                self.assertEqual(ask_total(before, 0), [100 * races, 0])

    def test_fewer_others_than_could_be_left_out(self):
        before = sailed([1, 2, 3, 4], (1, 2, 3)) + [note(0, 0, 6), note(3, 0, 6)]
        self.assertEqual(ask_total(before, 0), [520, bits(1, 2)])
        self.assertEqual(ask_total(before + [note(1, 0, 6)], 0), [780, bits(2)])
        self.assertEqual(ask_total(before + [note(1, 0, 6), note(2, 0, 6)], 0), [1040, 0])

    def test_just_as_many_others_as_are_left_out(self):
        before = sailed([1, 2, 3, 4], (1, 2, 3)) + [note(1, 0, 6)]
        self.assertEqual(ask_total(before, 0), [260, bits(0, 2, 3)])

    def test_for_one_boat_alone(self):
        before = alike(3, races=2, limits=(2, 0, 0)) + [note(0, 0, 6)]
        self.assertEqual(ask_lists(before, [total(0), total(1)]), [[80, bits(1)], [80, bits(0)]])

    def test_what_is_told_later_counts(self):
        before = sailed([1, 2, 3], (3, 0, 0)) + [note(0, 0, 6)]
        self.assertEqual(ask_total(before + [note(0, 0, 5)], 0), [100, bits(0)])
        self.assertEqual(ask_total(before + [finish(0, 0, 100)], 0), [60, bits(2)])


class MadeGoodLeftOut(unittest.TestCase):
    def test_left_out_where_it_has_the_most_of_those_free(self):
        before = sailed([1, 1, 1], (3, 0, 0)) + [note(0, 0, 6), note(1, 0, 7)]
        self.assertEqual(ask_behind(before, [points(1, 0)]), [140])
        self.assertEqual(ask_total(before, 0), [280, bits(1)])

    def test_left_out_as_the_first_of_like_ones(self):
        before = sailed([1, 3, 3], (3, 0, 0)) + [note(0, 0, 7)]
        self.assertEqual(ask_total(before, 0), [120, bits(0)])

    def test_kept_where_another_has_more(self):
        before = sailed([1, 3, 5], (3, 0, 0)) + [note(0, 0, 7)]
        self.assertEqual(ask_total(before, 0), [140, bits(2)])

    def test_every_race_made_good(self):
        before = alike(4, races=3, limits=(2, 0, 0)) + [note(race, 0, 7) for race in range(3)]
        self.assertEqual(ask_total(before, 0), [200, bits(0)])


if __name__ == "__main__":
    unittest.main()
