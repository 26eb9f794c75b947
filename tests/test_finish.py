"""Promise 3: finish."""

import unittest

from tests.helper import LARGEST, RACE, ask, ask_behind, boat, finish, fleet, note, start

OTHER_KINDS = [0, 2, 3, 4, 5, 6, 7]


class FinishRefused(unittest.TestCase):
    def test_none_at_all(self):
        self.assertEqual(ask([start(), finish(0, 0, 100)]), [0, -2])
        self.assertEqual(ask([start(), RACE, finish(0, 0, 100)]), [0, 0, -2])
        self.assertEqual(ask([start(), boat(), finish(0, 0, 100)]), [0, 0, -2])

    def test_no_such_race_or_boat(self):
        before = fleet(1000, 1000, 1000, races=2)
        for race, number in [(2, 0), (LARGEST, 0), (0, 3), (0, LARGEST), (2, 3), (2, 2), (LARGEST, LARGEST)]:
            with self.subTest(race=race, number=number):
                self.assertEqual(ask_behind(before, [finish(race, number, 100)]), [-2])
        self.assertEqual(ask_behind(before, [finish(1, 2, 100)]), [1])

    def test_seconds(self):
        wanted = {0: -22, 1: 1, 2: 1, 999999: 1, 1000000: 1, 1000001: -22, LARGEST: -22}
        for seconds, answer in wanted.items():
            for fined in (0, 1):
                with self.subTest(seconds=seconds, fined=fined):
                    self.assertEqual(ask_behind(fleet(1000), [finish(0, 0, seconds, fined)]), [answer])

    def test_fined(self):
        for fined, answer in {0: 1, 1: 1, 2: -22, 3: -22, LARGEST: -22}.items():
            with self.subTest(fined=fined):
                self.assertEqual(ask_behind(fleet(1000), [finish(0, 0, 100, fined)]), [answer])

    def test_both_wrong(self):
        self.assertEqual(ask_behind(fleet(1000), [finish(0, 0, 0, 2)]), [-22])

    def test_no_such_is_told_ahead_of_wrong_numbers(self):
        for race, number in [(1, 0), (0, 1), (1, 1)]:
            for seconds, fined in [(0, 0), (1000001, 0), (100, 2), (0, 2)]:
                with self.subTest(race=race, number=number, seconds=seconds, fined=fined):
                    self.assertEqual(ask_behind(fleet(1000), [finish(race, number, seconds, fined)]), [-2])

    def test_refused_finish_leaves_what_was_told(self):
        for seconds, fined in [(0, 0), (1000001, 0), (300, 2)]:
            with self.subTest(seconds=seconds, fined=fined):
                before = fleet(1000, 1000) + [finish(0, 0, 100)]
                self.assertEqual(ask_behind(before, [finish(0, 0, seconds, fined), finish(0, 1, 200)]), [-22, 2])

    def test_refused_finish_tells_nothing(self):
        for seconds, fined in [(0, 0), (50, 2)]:
            with self.subTest(seconds=seconds, fined=fined):
                before = fleet(1000, 1000)
                self.assertEqual(ask_behind(before, [finish(0, 0, seconds, fined), finish(0, 1, 200)]), [-22, 1])

    def test_finish_refused_for_want_of_a_boat_or_race_is_not_kept_for_it(self):
        before = fleet(1000)
        self.assertEqual(
            ask_behind(before, [finish(0, 1, 100), boat(), finish(0, 0, 200)]),
            [-2, 1, 1],
        )
        self.assertEqual(
            ask_behind(before, [boat(), finish(1, 1, 100), RACE, finish(1, 0, 200)]),
            [1, -2, 1, 1],
        )


class PlaceInRace(unittest.TestCase):
    def places(self, ratings, finishes):
        return ask_behind(fleet(*ratings), finishes)

    def test_alone(self):
        self.assertEqual(self.places([1000], [finish(0, 0, 100)]), [1])
        self.assertEqual(self.places([1000, 500, 2000], [finish(0, 2, 1000000)]), [1])

    def test_behind_one_told_earlier(self):
        self.assertEqual(self.places([1000, 1000], [finish(0, 0, 100), finish(0, 1, 101)]), [1, 2])

    def test_ahead_of_one_told_earlier(self):
        self.assertEqual(self.places([1000, 1000], [finish(0, 0, 100), finish(0, 1, 99)]), [1, 1])

    def test_level_boats_have_one_place_and_the_next_is_behind_both(self):
        self.assertEqual(
            self.places([1000] * 4, [finish(0, 0, 90), finish(0, 1, 100), finish(0, 2, 100), finish(0, 3, 110)]),
            [1, 2, 2, 4],
        )

    def test_all_level(self):
        self.assertEqual(self.places([800] * 32, [finish(0, k, 77) for k in range(32)]), [1] * 32)

    def test_by_seconds_times_rating(self):
        self.assertEqual(self.places([1000, 500], [finish(0, 0, 100), finish(0, 1, 199)]), [1, 1])
        self.assertEqual(self.places([1000, 500], [finish(0, 0, 100), finish(0, 1, 200)]), [1, 1])
        self.assertEqual(self.places([1000, 500], [finish(0, 0, 100), finish(0, 1, 201)]), [1, 2])
        self.assertEqual(self.places([500, 1000], [finish(0, 0, 199), finish(0, 1, 100)]), [1, 2])
        self.assertEqual(self.places([500, 1000], [finish(0, 0, 200), finish(0, 1, 100)]), [1, 1])

    def test_largest_times_one_apart(self):
        self.assertEqual(self.places([1999, 2000], [finish(0, 0, 1000000), finish(0, 1, 1000000)]), [1, 2])
        self.assertEqual(self.places([2000, 2000], [finish(0, 0, 999999), finish(0, 1, 1000000)]), [1, 2])

    def test_each_of_32_boats_behind_those_before(self):
        slower = [finish(0, k, 100 + k) for k in range(32)]
        self.assertEqual(self.places([1000] * 32, slower), list(range(1, 33)))
        faster = [finish(0, k, 100 - k) for k in range(32)]
        self.assertEqual(self.places([1000] * 32, faster), [1] * 32)
        self.assertEqual(self.places([1000] * 32, faster + faster)[32:], list(range(32, 0, -1)))

    def test_what_is_told_later_counts(self):
        self.assertEqual(self.places([1000], [finish(0, 0, 100), finish(0, 0, 200)]), [1, 1])
        self.assertEqual(
            self.places([1000, 1000], [finish(0, 0, 100), finish(0, 0, 300), finish(0, 1, 200), finish(0, 0, 300)]),
            [1, 1, 1, 2],
        )
        self.assertEqual(
            self.places([1000, 1000], [finish(0, 0, 300), finish(0, 0, 100), finish(0, 1, 200)]),
            [1, 1, 2],
        )

    def test_each_race_by_itself(self):
        before = fleet(1000, 1000, races=2) + [finish(0, 0, 100)]
        self.assertEqual(ask_behind(before, [finish(1, 1, 200), finish(0, 1, 200), finish(1, 0, 300)]), [1, 2, 2])

    def test_boats_of_which_something_else_is_told_do_not_count(self):
        for kind in OTHER_KINDS:
            with self.subTest(kind=kind):
                self.assertEqual(
                    self.places([500, 1000, 1000], [note(0, 0, kind), finish(0, 1, 100), finish(0, 2, 100)]),
                    [0, 1, 1],
                )

    def test_a_fined_boat_counts_by_its_time(self):
        self.assertEqual(self.places([1000, 1000], [finish(0, 0, 100, 1), finish(0, 1, 200)]), [1, 2])

    def test_a_fine_does_not_change_the_place(self):
        before = [finish(0, 0, 200), finish(0, 1, 300), finish(0, 2, 400)]
        self.assertEqual(self.places([1000] * 5, before + [finish(0, 3, 100, 1)])[3:], [1])
        self.assertEqual(self.places([1000] * 5, before + [finish(0, 3, 300, 1)])[3:], [2])
        self.assertEqual(self.places([1000] * 5, before + [finish(0, 3, 500, 1)])[3:], [4])

    def test_told_again_fined_and_not(self):
        self.assertEqual(
            self.places([1000, 1000], [finish(0, 0, 100), finish(0, 1, 200), finish(0, 1, 200, 1), finish(0, 1, 200)]),
            [1, 2, 2, 2],
        )


if __name__ == "__main__":
    unittest.main()
