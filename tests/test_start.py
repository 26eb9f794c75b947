"""Promise 1: start."""

import unittest

from tests.helper import LARGEST, RACE, ask, ask_behind, boat, finish, fleet, start

AS_TOLD = [
    (0, 0, 0),
    (1, 0, 0), (7, 0, 0), (20, 0, 0),
    (1, 2, 0), (4, 9, 0), (19, 20, 0), (1, 20, 0),
    (1, 2, 3), (4, 8, 12), (18, 19, 20), (1, 2, 20),
]

NOT_AS_TOLD = [
    (21, 0, 0), (1, 21, 0), (1, 2, 21), (19, 20, 21), (20, 21, 22),
    (5, 5, 0), (5, 4, 0), (5, 6, 6), (5, 6, 5), (5, 6, 1), (5, 5, 6), (6, 5, 7), (20, 20, 20),
    (0, 1, 0), (0, 0, 1), (0, 1, 2), (5, 0, 6), (5, 0, 1), (5, 0, 20), (0, 20, 0), (0, 0, 20), (0, 0, 21),
    (0, 21, 0), (0, 21, 22),
    (LARGEST, 0, 0), (1, LARGEST, 0), (1, 2, LARGEST), (0, 0, LARGEST), (0, LARGEST, 0),
    (LARGEST, LARGEST, LARGEST),
]


class Start(unittest.TestCase):
    def test_as_told(self):
        for limits in AS_TOLD:
            with self.subTest(limits=limits):
                self.assertEqual(ask([start(*limits)]), [0])

    def test_not_as_told(self):
        for limits in NOT_AS_TOLD:
            with self.subTest(limits=limits):
                self.assertEqual(ask([start(*limits)]), [-22])

    def test_all_small_limits(self):
        for one in range(23):
            for two in range(23):
                for three in range(23):
                    used = [limit for limit in (one, two, three) if limit > 0]
                    good = (
                        (one, two, three) == tuple(used + [0] * (3 - len(used)))
                        and used == sorted(set(used))
                        and max(used, default=0) <= 20
                    )
                    self.assertEqual(ask([start(one, two, three)]), [0 if good else -22], (one, two, three))

    def test_several_refused_ahead_of_the_first(self):
        refused = [start(21), start(0, 1), start(3, 3), start(LARGEST)]
        self.assertEqual(
            ask(refused + [start(3, 6), boat(), RACE]),
            [-22, -22, -22, -22, 0, 0, 0],
        )

    def test_start_again_leaves_no_boats_and_no_races(self):
        before = fleet(1000, 900, races=2) + [start(2, 4, 6)]
        self.assertEqual(ask_behind(before, [finish(0, 0, 100)]), [-2])
        self.assertEqual(ask_behind(before, [RACE, finish(0, 0, 100)]), [0, -2])
        self.assertEqual(ask_behind(before, [boat(), finish(0, 0, 100)]), [0, -2])
        self.assertEqual(ask_behind(before, [boat(), boat(), RACE, RACE]), [0, 1, 0, 1])

    def test_start_again_forgets_what_was_told(self):
        before = fleet(1000, 1000) + [finish(0, 0, 100)] + fleet(1000, 1000)
        self.assertEqual(ask_behind(before, [finish(0, 1, 200)]), [1])

    def test_start_again_makes_room(self):
        before = fleet(*[1000] * 32, races=20) + [boat(), RACE]
        self.assertEqual(ask(before)[-2:], [-28, -28])
        self.assertEqual(ask_behind(before, [start(), boat(), RACE]), [0, 0, 0])

    def test_refused_start_leaves_all_as_it_was(self):
        before = fleet(1000, 1000, races=2) + [finish(1, 0, 100)]
        for limits in NOT_AS_TOLD:
            with self.subTest(limits=limits):
                self.assertEqual(
                    ask_behind(before, [start(*limits), finish(1, 1, 200), boat(), RACE]),
                    [-22, 2, 2, 2],
                )


if __name__ == "__main__":
    unittest.main()
