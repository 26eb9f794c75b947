"""Promise 8: order."""

import unittest

from tests.helper import ORDER, RACE, alike, ask_lists, ask_order, ask_places, boat, note, sail, start


class Order(unittest.TestCase):
    def test_no_boats(self):
        self.assertEqual(ask_order([start()]), [0])
        self.assertEqual(ask_order([start(1, 2, 3), RACE, RACE]), [0])
        self.assertEqual(ask_order(alike(3) + [start()]), [0])

    def test_one_boat(self):
        self.assertEqual(ask_order([start(), boat()]), [1, 0])
        self.assertEqual(ask_order(alike(1, races=3) + sail(1, [0])), [1, 0])

    def test_by_their_places(self):
        self.assertEqual(ask_order(alike(4) + sail(0, [2], [0], [3], [1])), [4, 2, 0, 3, 1])

    def test_of_like_ones_by_their_numbers(self):
        self.assertEqual(ask_order(alike(5, races=0)), [5, 0, 1, 2, 3, 4])
        self.assertEqual(ask_order(alike(5, races=2)), [5, 0, 1, 2, 3, 4])
        self.assertEqual(ask_order(alike(5) + sail(0, [4], [3, 1], [2, 0])), [5, 4, 1, 3, 0, 2])
        self.assertEqual(ask_order(alike(5) + sail(0, [4, 0], [3])), [5, 0, 4, 3, 1, 2])

    def test_totals_alike(self):
        before = alike(3, races=2) + sail(0, [0], [1], [2]) + sail(1, [2], [1], [0])
        self.assertEqual(ask_order(before), [3, 2, 0, 1])

    def test_by_the_races_kept(self):
        before = alike(3, races=2, limits=(2, 0, 0)) + sail(0, [0], [1], [2]) + sail(1, [2], [1]) + [note(1, 0, 6)]
        self.assertEqual(ask_order(before), [3, 2, 1, 0])
        self.assertEqual(ask_order(before + [note(1, 0, 5)]), [3, 2, 0, 1])

    def test_32_boats(self):
        self.assertEqual(ask_order(alike(32)), [32] + list(range(32)))
        backwards = sail(0, *[[31 - k] for k in range(32)])
        self.assertEqual(ask_order(alike(32) + backwards), [32] + list(range(31, -1, -1)))
        in_pairs = sail(0, *[[31 - 2 * k, 30 - 2 * k] for k in range(16)])
        wanted = [number for k in range(16) for number in (30 - 2 * k, 31 - 2 * k)]
        self.assertEqual(ask_order(alike(32) + in_pairs), [32] + wanted)

    def test_as_the_places_say(self):
        before = alike(7, races=3, limits=(3, 0, 0))
        before += sail(0, [3, 5], [0], [6, 1, 2]) + sail(1, [2], [5, 3], [0]) + sail(2, [0, 6], [3, 5])
        places = ask_places(before, 7)
        self.assertEqual(ask_order(before), [7] + sorted(range(7), key=lambda number: (places[number], number)))

    def test_asking_changes_nothing(self):
        before = alike(3) + sail(0, [2], [1], [0])
        self.assertEqual(ask_lists(before, [ORDER, ORDER, boat(), ORDER]), [
            [3, 2, 1, 0], [3, 2, 1, 0], [3], [4, 2, 1, 0, 3],
        ])


if __name__ == "__main__":
    unittest.main()
