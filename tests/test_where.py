"""where: how a place lies to what's between points."""

import unittest
from itertools import product

from pointbodies.bodies import where
from tests import reference
from tests.places import CROSS, PYRAMID, TEN, TRIANGLE, told, tries
from tests.refused import PlaceRefusals


class Places(unittest.TestCase):
    """A test class that can ask for many places of the same points."""

    def answers(self, wanted, n, points, *places):
        for place in places:
            with self.subTest(place=place):
                self.assertEqual(where(n, told(*place), points), [wanted])


class Ordinary(Places):
    def test_plane(self):
        self.answers(2, 2, TRIANGLE, (1, 1), ("1/2", "1/3"), ("1/1000", "1/1000"), (3, "1/2"))
        self.answers(1, 2, TRIANGLE, (2, "3/2"), (0, 1), (3, 0), ("1/3", 0), ("4/3", 2))
        self.answers(1, 2, TRIANGLE, *TRIANGLE)
        self.answers(0, 2, TRIANGLE, (2, 2), (-1, 1), (1, -1), (5, 0), (0, 4), (-4, 6), ("7/3", "3/2"))

    def test_three_dimensions(self):
        self.answers(2, 3, PYRAMID, ("1/2", "1/2", "1/2"), ("1/4", "1/5", 4), ("1/5", 2, "1/7"))
        sides = [("2/3", 1, "5/3"), ("1/2", "1/2", 0), ("1/2", 0, 1), (0, 1, 1)]
        edges = [(1, 0, 0), (0, 1, 0), (0, 0, 1), (1, "3/2", 0), (1, 0, "5/2"), (0, "3/2", "5/2")]
        self.answers(1, 3, PYRAMID, *sides, *edges, *PYRAMID)
        self.answers(0, 3, PYRAMID, (1, 1, 1), (-1, 0, 0), (3, 0, 0), (0, 0, 6), (0, -1, 1), (2, 3, 5))

    def test_four_dimensions(self):
        self.answers(2, 4, CROSS, (0, 0, 0, 0), ("1/4", "-1/4", "1/4", "1/5"), (0, 0, 0, "-999/1000"))
        side = ("1/4", "-1/4", "1/4", "-1/4")
        flat = ("1/2", "1/4", "-1/4", 0)
        edge = ("1/2", "1/2", 0, 0)
        self.answers(1, 4, CROSS, side, flat, edge, ("1/3", 0, 0, "-2/3"), *CROSS)
        self.answers(0, 4, CROSS, ("1/2", "1/2", "1/4", 0), (1, 1, 0, 0), (0, 0, 2, 0), ("1/4", "1/4", "1/4", "1/3"))

    def test_against_the_words(self):
        seen = {0: 0, 1: 0, 2: 0}
        for n, place, points in tries(6, 10):
            with self.subTest(n=n, place=place, points=points):
                answer = where(n, place, points)
                self.assertEqual(answer, reference.where(n, place, points))
                seen[answer[0]] += 1
        self.assertGreater(min(seen.values()), 20)


class Edges(Places):
    def test_one_point(self):
        self.answers(1, 2, [[3, 4]], (3, 4))
        self.answers(0, 2, [[3, 4]], (0, 0), (6, 8), (3, 5), (2, 4), (-3, -4), ("3001/1000", 4), (3, "3999/1000"))
        self.answers(1, 3, [[0, 0, 0]], (0, 0, 0))
        self.answers(0, 3, [[0, 0, 0]], (0, 0, 1), ("1/1000", 0, 0), (0, "-1/1000", 0))
        self.answers(1, 4, [[100, -100, 0, 1]], (100, -100, 0, 1))
        self.answers(0, 4, [[100, -100, 0, 1]], (100, -100, 0, 2), (100, -100, "1/999", 1))

    def test_points_told_twice(self):
        self.answers(1, 2, [[3, 4]] * 10, (3, 4))
        self.answers(0, 2, [[3, 4]] * 10, (4, 3))
        self.answers(2, 2, TRIANGLE * 3, (1, 1))
        self.answers(1, 2, TRIANGLE * 3, (2, "3/2"), (4, 0))
        self.answers(0, 2, TRIANGLE * 3, (2, 2))
        self.answers(1, 3, [[1, 2, 3], [1, 2, 4]] * 5, (1, 2, "7/2"), (1, 2, 3))
        self.answers(0, 3, [[1, 2, 3], [1, 2, 4]] * 5, (1, 2, 5), (1, 3, 3))

    def test_points_on_a_line(self):
        self.answers(1, 2, [[2, 2], [0, 0], [1, 1]], (0, 0), (1, 1), (2, 2), ("1/3", "1/3"), ("1999/1000", "1999/1000"))
        self.answers(0, 2, [[2, 2], [0, 0], [1, 1]], (3, 3), (-1, -1), ("2001/1000", "2001/1000"), (1, 2),
                     ("1/3", "333/1000"))
        self.answers(1, 2, [[5, 1], [5, -1]], (5, 0), (5, 1), (5, "-2/3"))
        self.answers(0, 2, [[5, 1], [5, -1]], (5, 2), (4, 0), ("5001/1000", 0), (0, 0))
        self.answers(1, 3, [[3, -3, 6], [-1, 1, -2]], (1, -1, 2), ("1/7", "-1/7", "2/7"), (3, -3, 6))
        self.answers(0, 3, [[3, -3, 6], [-1, 1, -2]], (4, -4, 8), (-2, 2, -4), (1, -1, 3), (1, 1, 2))
        self.answers(1, 4, [[0, 0, 0, 3], [0, 0, 0, 1]], (0, 0, 0, 2), (0, 0, 0, 3), (0, 0, 0, "5/3"))
        self.answers(0, 4, [[0, 0, 0, 3], [0, 0, 0, 1]], (0, 0, 0, 0), (0, 0, 0, 4), (0, 0, "1/1000", 2), (1, 0, 0, 2))

    def test_points_on_a_plane(self):
        leaning = [[x, y, x + y] for x, y in TRIANGLE]
        self.answers(1, 3, leaning, (1, 1, 2), ("1/2", "1/3", "5/6"), (2, "3/2", "7/2"), (0, 0, 0), (4, 0, 4))
        self.answers(0, 3, leaning, (2, 2, 4), (-1, 0, -1), (1, 1, 1), ("1/2", "1/3", "4/5"), (1, 1, 0))
        upright = [[7, x, y] for x, y in TRIANGLE + [[1, 1]]]
        self.answers(1, 3, upright, (7, 1, 1), (7, 3, "1/2"), (7, 0, 0), (7, "4/3", 2))
        self.answers(0, 3, upright, (7, 2, 2), (6, 1, 1), ("7001/1000", 1, 1), (0, 0, 0))
        bent = [[x, 1, y, x - y] for x, y in TRIANGLE]
        self.answers(1, 4, bent, (1, 1, 1, 0), (3, 1, "1/2", "5/2"), (0, 1, 3, -3))
        self.answers(0, 4, bent, (2, 1, 2, 0), (1, 1, 1, 1), (1, 2, 1, 0), (1, "1001/1000", 1, 0))

    def test_points_in_three_of_four_dimensions(self):
        cube = [[x, y, 9, z] for x, y, z in product((0, 2), repeat=3)]
        self.answers(1, 4, cube, (1, 1, 9, 1), ("1/3", "1/5", 9, "1/7"), (0, 0, 9, 0), (2, 1, 9, 1))
        self.answers(0, 4, cube, (3, 1, 9, 1), (1, 1, 8, 1), (1, 1, "9001/1000", 1), (1, -1, 9, 1))
        leaning = [point + [sum(point)] for point in PYRAMID]
        self.answers(1, 4, leaning, ("1/2", "1/2", "1/2", "3/2"), ("2/3", 1, "5/3", "10/3"), (0, 3, 0, 3))
        self.answers(0, 4, leaning, (1, 1, 1, 3), ("1/2", "1/2", "1/2", 1), (-1, 0, 1, 0))

    def test_points_that_are_no_corners(self):
        points = [[0, 0], [6, 0], [0, 6], [2, 0], [3, 3], [0, 5], [1, 1], [2, 3]]
        self.answers(2, 2, points, (1, 1), (2, 3))
        self.answers(1, 2, points, (2, 0), (3, 3), (0, 5), (6, 0))

    def test_common_divisor_above_and_below(self):
        self.assertEqual(where(2, [2, 4, 2, 6], TRIANGLE), [2])
        self.assertEqual(where(2, [1000, 1000, 500, 500], TRIANGLE), [2])
        self.assertEqual(where(2, [8, 4, 6, 4], TRIANGLE), [1])
        self.assertEqual(where(2, [0, 1000, 0, 7], TRIANGLE), [1])
        self.assertEqual(where(2, [4000, 1000, 0, 2], TRIANGLE), [1])
        self.assertEqual(where(2, [8, 4, 8, 4], TRIANGLE), [0])
        self.assertEqual(where(2, [9, 3, 80, 20], [[3, 4]]), [1])
        self.assertEqual(where(3, [4, 6, 10, 10, 50, 30], PYRAMID), [1])
        self.assertEqual(where(4, [2, 8, -2, 8, 250, 1000, 3, 15], CROSS), [2])
        self.assertEqual(where(4, [2, 8, -2, 8, 250, 1000, 3, 12], CROSS), [1])

    def test_furthest_numbers_above_and_below(self):
        for n in (2, 3, 4):
            corner = [[100] * n, [-100] * n]
            self.assertEqual(where(n, [100000, 1000] * n, corner), [1])
            self.assertEqual(where(n, [-100000, 1000] * n, corner), [1])
            self.assertEqual(where(n, [99999, 1000] * n, corner), [1])
            self.assertEqual(where(n, [100000, 999] * n, corner), [0])
            self.assertEqual(where(n, [-100000, 999] * n, corner), [0])
            self.assertEqual(where(n, [100000, 1] * n, corner), [0])
            self.assertEqual(where(n, [-100000, 1] * n, corner), [0])
            self.assertEqual(where(n, [1, 1000] * n, corner), [1])
            self.assertEqual(where(n, [100, 1] * n, corner), [1])
        square = [list(p) for p in product((-100, 100), repeat=2)]
        self.assertEqual(where(2, [99999, 1000, -99999, 1000], square), [2])
        self.assertEqual(where(2, [100000, 1000, -99999, 1000], square), [1])
        self.assertEqual(where(2, [100000, 999, -99999, 1000], square), [0])

    def test_places_that_miss_a_bound_by_very_little(self):
        self.assertEqual(where(2, [1333, 1000, 2, 1], TRIANGLE), [2])
        self.assertEqual(where(2, [1334, 1000, 2, 1], TRIANGLE), [0])
        self.assertEqual(where(2, [3992, 999, 3, 1000], TRIANGLE), [2])
        self.assertEqual(where(2, [3667, 999, 247, 1000], TRIANGLE), [0])
        self.assertEqual(where(2, [-1, 1000, 1, 1], TRIANGLE), [0])
        self.assertEqual(where(3, [1, 999, 1, 1000, 1, 997], PYRAMID), [2])
        self.assertEqual(where(3, [1, 999, 1, 1000, -1, 1000], PYRAMID), [0])
        self.assertEqual(where(4, [997, 999, 1, 1000, 1, 1000, 1, 1000], CROSS), [0])
        self.assertEqual(where(4, [996, 999, 1, 1000, 1, 1000, 1, 1000], CROSS), [2])
        line = [[0, 0, 0], [100, 99, 98]]
        self.assertEqual(where(3, [100, 997, 99, 997, 98, 997], line), [1])
        self.assertEqual(where(3, [100, 997, 99, 998, 98, 997], line), [0])

    def test_ten_points(self):
        self.answers(2, 2, TEN, (0, 0), (-4, 0), ("9/2", 1), (0, "3999/1000"))
        self.answers(1, 2, TEN, ("9/2", "3/2"), (0, 4), ("7/2", "-7/2"), *TEN)
        self.answers(0, 2, TEN, (5, 1), (0, -5), ("7/2", "-18/5"), (-6, 0))
        curve = [[k, k * k, (k * k * k) // 4, (k * k + 3 * k) % 11] for k in range(-5, 5)]
        middle = [sum(way) for way in zip(*curve)]
        self.assertEqual(where(4, [number for way in middle for number in (way, 10)], curve), [2])
        self.answers(1, 4, curve, *curve)
        self.answers(0, 4, curve, (0, 0, 0, 10), (0, -1, 0, 0))

    def test_answer_does_not_hang_on_the_order_told(self):
        points = [[1, 2, 3], [4, 0, -3], [2, 2, 2], [-7, 1, 0], [0, 0, 9], [3, 3, 3]]
        for place, wanted in ((told(0, 1, 2), 2), (told(3, 3, 3), 1), (told("1/3", "2/3", 9), 0)):
            for k in range(6):
                self.assertEqual(where(3, place, points[k:] + points[:k]), [wanted])
                self.assertEqual(where(3, place, (points[k:] + points[:k])[::-1]), [wanted])


class Refusals(PlaceRefusals, unittest.TestCase):
    call = where
    at_the_first = [1]


class EachCallByItself(unittest.TestCase):
    def test_what_is_handed_in_is_not_changed(self):
        for n, place, points in ((2, [2, 4, 2, 6], TRIANGLE + TRIANGLE), (3, told(2, 2, 2), [[1, 2, 3], [3, 2, 1]]),
                                 (4, [0, 1, 0, 1, 0, 1, 0, 1], CROSS), (2, [0, 0, 1, 1], TRIANGLE),
                                 (2, [0, 1, 0, 1], [[101, 0]])):
            before = (list(place), [list(point) for point in points])
            answer = where(n, reference.Frozen(place), reference.frozen(points))
            self.assertEqual(where(n, place, points), answer)
            self.assertEqual((place, points), before)

    def test_a_second_call_answers_as_the_first(self):
        first = where(2, told(1, 1), TRIANGLE)
        first.clear()
        where(3, told(1, 1, 1), PYRAMID).append(5)
        where(9, [], [])
        self.assertEqual(where(2, told(1, 1), TRIANGLE), [2])
        self.assertEqual(where(3, told(1, 1, 1), PYRAMID), [0])

    def test_only_lists_of_whole_numbers_are_answered(self):
        for answer in (where(2, told(1, 1), TRIANGLE), where(2, told(9, 1), TRIANGLE), where(2, told(4, 0), TRIANGLE),
                       where(2, [], TRIANGLE)):
            self.assertIs(type(answer), list)
            self.assertEqual([type(number) for number in answer], [int])


if __name__ == "__main__":
    unittest.main()
