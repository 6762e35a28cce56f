"""most: at which corners a direction goes furthest."""

import unittest
from itertools import product
from random import Random

from pointbodies.bodies import hull, most
from tests import reference
from tests.places import CROSS, PYRAMID, TEN, TRIANGLE, random_points
from tests.refused import PointRefusals

SIMPLEX = [[7, 7, 7, 7], [8, 7, 7, 7], [7, 9, 7, 7], [7, 7, 10, 7], [7, 7, 7, 11]]
CUBE = [list(point) for point in product((0, 2), repeat=3)]
FAR_SQUARE = [list(point) for point in product((-100, 100), repeat=2)]
FAR_CUBE = [list(point) for point in product((-100, 100), repeat=3)]


class Ordinary(unittest.TestCase):
    def test_plane(self):
        self.assertEqual(most(2, [1, 0], TRIANGLE), [1, 4, 1, 2])
        self.assertEqual(most(2, [0, 1], TRIANGLE), [1, 3, 1, 1])
        self.assertEqual(most(2, [1, 1], TRIANGLE), [1, 4, 1, 2])
        self.assertEqual(most(2, [2, 3], TRIANGLE), [1, 9, 1, 1])
        self.assertEqual(most(2, [-1, -1], TRIANGLE), [1, 0, 1, 0])
        self.assertEqual(most(2, [3, 4], TRIANGLE), [2, 12, 1, 1, 2])
        self.assertEqual(most(2, [-1, 0], TRIANGLE), [2, 0, 1, 0, 1])
        self.assertEqual(most(2, [0, -7], TRIANGLE), [2, 0, 1, 0, 2])

    def test_three_dimensions(self):
        self.assertEqual(most(3, [1, 1, 1], PYRAMID), [1, 5, 1, 1])
        self.assertEqual(most(3, [3, 2, 1], PYRAMID), [2, 6, 1, 2, 3])
        self.assertEqual(most(3, [15, 10, 6], PYRAMID), [3, 30, 1, 1, 2, 3])
        self.assertEqual(most(3, [-1, -2, -3], PYRAMID), [1, 0, 1, 0])
        self.assertEqual(most(3, [0, 0, -3], PYRAMID), [3, 0, 1, 0, 2, 3])
        self.assertEqual(most(3, [1, 2, 3], CUBE), [1, 12, 1, 7])
        self.assertEqual(most(3, [1, -2, 0], CUBE), [2, 2, 1, 4, 5])
        self.assertEqual(most(3, [0, 5, 0], CUBE), [4, 10, 1, 2, 3, 6, 7])

    def test_four_dimensions(self):
        self.assertEqual(most(4, [1, 2, 3, 5], SIMPLEX), [1, 97, 1, 1])
        self.assertEqual(most(4, [1, -1, 1, -1], SIMPLEX), [1, 3, 1, 2])
        self.assertEqual(most(4, [0, 0, 4, 3], SIMPLEX), [2, 61, 1, 1, 2])
        self.assertEqual(most(4, [12, 6, 4, 3], SIMPLEX), [4, 187, 1, 1, 2, 3, 4])
        self.assertEqual(most(4, [0, -1, 0, 0], SIMPLEX), [4, -7, 1, 0, 1, 2, 4])
        self.assertEqual(most(4, [3, -7, 2, 5], CROSS), [1, 7, 1, 1])
        self.assertEqual(most(4, [3, 0, 0, -3], CROSS), [2, 3, 1, 3, 7])
        self.assertEqual(most(4, [1, 1, -1, 1], CROSS), [4, 1, 1, 2, 4, 6, 7])

    def test_against_the_words(self):
        random = Random(10)
        seen = {}
        for n in (2, 3, 4):
            for lie, reach in [(lie, 4) for lie in range(n)] + [(n, 1), (n, 3), (n, 100)]:
                for time in range(8):
                    points = random_points(random, n, lie, reach)
                    for far in (0, 1, 1, 2, 100):
                        direction = [random.randint(-far, far) for k in range(n)]
                        with self.subTest(n=n, direction=direction, points=points):
                            answer = most(n, direction, points)
                            self.assertEqual(answer, reference.most(n, direction, points))
                            seen[n, min(answer[0], n)] = True
        for n in (2, 3, 4):
            for count in range(1, n + 1):
                self.assertIn((n, count), seen)

    def test_towards_each_side(self):
        for n, points in ((2, TRIANGLE), (2, TEN), (3, PYRAMID), (3, CUBE), (4, SIMPLEX), (4, CROSS)):
            corners = sorted(points)
            told = hull(n, points)[2 + 2 * n * len(corners) + 1:]
            sides = [told[k:k + n + 1] for k in range(0, len(told), n + 1)]
            self.assertGreater(len(sides), n)
            for side in sides:
                numbers = [k for k in range(len(corners)) if reference.above_bound(side, corners[k]) == 0]
                self.assertEqual(most(n, side[:n], points), [len(numbers), side[n], 1] + numbers)


class Edges(unittest.TestCase):
    def test_a_direction_of_0_alone(self):
        for n, points in ((2, TRIANGLE), (2, TEN), (3, PYRAMID), (3, CUBE), (4, SIMPLEX), (4, CROSS)):
            answer = [len(points), 0, 1] + list(range(len(points)))
            self.assertEqual(most(n, [0] * n, points), answer)
        self.assertEqual(most(2, [0, 0], TRIANGLE + [[1, 1], [2, 0], [0, 0]]), [3, 0, 1, 0, 1, 2])
        self.assertEqual(most(3, [0, 0, 0], [[5, 5, 5]]), [1, 0, 1, 0])
        self.assertEqual(most(4, [0, 0, 0, 0], [[-9, 0, 0, 1], [-9, 0, 0, 3], [-9, 0, 0, 2]]), [2, 0, 1, 0, 1])

    def test_most_below_0_of_0_and_above_0(self):
        away = [[-4, -3], [-6, -3], [-4, -9]]
        self.assertEqual(most(2, [1, 1], away), [1, -7, 1, 2])
        self.assertEqual(most(2, [1, 0], away), [2, -4, 1, 1, 2])
        self.assertEqual(most(2, [3, -4], away), [1, 24, 1, 1])
        self.assertEqual(most(2, [3, -4], [[4, 3], [0, 0], [-4, 0]]), [2, 0, 1, 1, 2])
        self.assertEqual(most(3, [-1, -1, -1], [[1, 2, 3], [3, 2, 2]]), [1, -6, 1, 0])
        self.assertEqual(most(4, [0, 0, 0, -1], SIMPLEX), [4, -7, 1, 0, 2, 3, 4])

    def test_one_point(self):
        self.assertEqual(most(2, [2, -1], [[3, 4]]), [1, 2, 1, 0])
        self.assertEqual(most(2, [4, -3], [[3, 4]]), [1, 0, 1, 0])
        self.assertEqual(most(3, [-1, -1, -1], [[3, 4, 5]]), [1, -12, 1, 0])
        self.assertEqual(most(4, [1, 2, 3, 4], [[0, 0, 0, 0]]), [1, 0, 1, 0])

    def test_points_told_twice(self):
        self.assertEqual(most(2, [1, 2], [[3, 4]] * 10), [1, 11, 1, 0])
        self.assertEqual(most(2, [3, 4], TRIANGLE * 3), [2, 12, 1, 1, 2])
        self.assertEqual(most(2, [1, 0], [[0, 0], [0, 0], [1, 1], [1, 1], [1, 0]]), [2, 1, 1, 1, 2])
        self.assertEqual(most(3, [0, 0, 1], [[1, 2, 3], [1, 2, 4]] * 5), [1, 4, 1, 1])
        self.assertEqual(most(4, [1, 1, 1, 1], CROSS + CROSS[:2]), [4, 1, 1, 4, 5, 6, 7])

    def test_points_on_a_line(self):
        line = [[2, 2], [0, 0], [1, 1], [-3, -3]]
        self.assertEqual(most(2, [1, 1], line), [1, 4, 1, 1])
        self.assertEqual(most(2, [-1, -2], line), [1, 9, 1, 0])
        self.assertEqual(most(2, [1, -1], line), [2, 0, 1, 0, 1])
        self.assertEqual(most(3, [1, 1, 0], [[3, -3, 6], [1, -1, 2], [-1, 1, -2]]), [2, 0, 1, 0, 1])
        self.assertEqual(most(3, [0, 0, 1], [[3, -3, 6], [1, -1, 2], [-1, 1, -2]]), [1, 6, 1, 1])
        self.assertEqual(most(4, [9, 9, 9, -1], [[0, 0, 0, 3], [0, 0, 0, 1], [0, 0, 0, 2]]), [1, -1, 1, 0])
        self.assertEqual(most(4, [1, 0, 0, 0], [[5, 0, 0, 3], [5, 0, 0, 1], [5, 0, 0, 2]]), [2, 5, 1, 0, 1])

    def test_points_on_a_plane(self):
        leaning = [[x, y, x + y] for x, y in TRIANGLE + [[1, 1]]]
        self.assertEqual(most(3, [0, 0, 1], leaning), [1, 4, 1, 2])
        self.assertEqual(most(3, [1, 1, -1], leaning), [3, 0, 1, 0, 1, 2])
        self.assertEqual(most(3, [2, 3, 1], leaning), [2, 12, 1, 1, 2])
        square = [[x, y, x + y] for x in (0, 1, 2) for y in (0, 1, 2)]
        self.assertEqual(most(3, [1, 0, 0], square), [2, 2, 1, 2, 3])
        bent = [[x, 1, y, x - y] for x, y in TRIANGLE + [[1, 1]]]
        self.assertEqual(most(4, [0, 5, 0, 0], bent), [3, 5, 1, 0, 1, 2])
        self.assertEqual(most(4, [0, 5, 0, -1], bent), [1, 8, 1, 1])

    def test_points_in_three_of_four_dimensions(self):
        cube = [[x, y, 9, z] for x, y, z in CUBE] + [[1, 1, 9, 1], [2, 1, 9, 1]]
        self.assertEqual(most(4, [1, 0, 0, 0], cube), [4, 2, 1, 4, 5, 6, 7])
        self.assertEqual(most(4, [1, 0, -1, 1], cube), [2, -5, 1, 5, 7])
        self.assertEqual(most(4, [0, 0, 2, 0], cube), [8, 18, 1, 0, 1, 2, 3, 4, 5, 6, 7])
        self.assertEqual(most(4, [-1, 1, 0, 3], cube), [1, 8, 1, 3])

    def test_points_that_are_furthest_but_no_corners(self):
        points = [[3, 3], [0, 5], [6, 0], [2, 0], [0, 0], [0, 6], [1, 5], [1, 1]]
        self.assertEqual(most(2, [1, 1], points), [2, 6, 1, 1, 2])
        self.assertEqual(most(2, [-1, 0], points), [2, 0, 1, 0, 1])
        self.assertEqual(most(2, [0, -1], points), [2, 0, 1, 0, 2])
        points = [[4, 0, 0], [2, 2, 0], [0, 4, 0], [1, 1, 2], [0, 0, 4], [0, 0, 0], [0, 2, 2]]
        self.assertEqual(most(3, [1, 1, 1], points), [3, 4, 1, 1, 2, 3])
        self.assertEqual(most(3, [0, 1, 1], points), [2, 4, 1, 1, 2])
        points = [[5 * (k == way) for k in range(4)] for way in range(5)] + [[0, 0, 2, 3], [2, 1, 1, 1], [1, 1, 1, 1]]
        self.assertEqual(most(4, [1, 1, 1, 1], points), [4, 5, 1, 1, 2, 3, 4])
        self.assertEqual(most(4, [0, 0, 1, 1], points), [2, 5, 1, 1, 2])

    def test_numbers_count_the_corners_alone_in_order(self):
        points = [[5, 5], [1, 1], [9, 0], [2, 2], [0, 9], [1, 2], [0, 0]]
        self.assertEqual(most(2, [0, 1], points), [1, 9, 1, 1])
        self.assertEqual(most(2, [1, 0], points), [1, 9, 1, 3])
        self.assertEqual(most(2, [1, 1], points), [1, 10, 1, 2])
        points = [[-10, 0], [-1, 9], [10, -9], [-1, -9], [9, 8], [0, 0], [-5, 0]]
        for number, corner in enumerate([[-10, 0], [-1, -9], [-1, 9], [9, 8], [10, -9]]):
            self.assertEqual(most(2, corner, points), [1, corner[0] ** 2 + corner[1] ** 2, 1, number])

    def test_furthest_numbers(self):
        self.assertEqual(most(2, [100, 100], FAR_SQUARE), [1, 20000, 1, 3])
        self.assertEqual(most(2, [-100, 100], FAR_SQUARE), [1, 20000, 1, 1])
        self.assertEqual(most(2, [-100, 0], FAR_SQUARE), [2, 10000, 1, 0, 1])
        self.assertEqual(most(2, [100, 99], [[100, -100], [-100, -100], [-100, 100]]), [1, 100, 1, 2])
        self.assertEqual(most(2, [100, 100], [[-100, -100]]), [1, -20000, 1, 0])
        self.assertEqual(most(3, [100, -100, 100], FAR_CUBE), [1, 30000, 1, 5])
        self.assertEqual(most(3, [0, -100, 0], FAR_CUBE), [4, 10000, 1, 0, 1, 4, 5])
        self.assertEqual(most(4, [-100] * 4, [[100] * 4, [-100] * 4]), [1, 40000, 1, 0])
        self.assertEqual(most(4, [-100] * 4, [[100] * 4]), [1, -40000, 1, 0])

    def test_ten_points(self):
        self.assertEqual(most(2, [0, 1], TEN), [2, 4, 1, 4, 6])
        self.assertEqual(most(2, [3, 1], TEN), [2, 15, 1, 8, 9])
        self.assertEqual(most(2, [-1, 0], TEN), [1, 5, 1, 0])
        self.assertEqual(most(2, [0, 0], TEN[::-1]), [10, 0, 1, 0, 1, 2, 3, 4, 5, 6, 7, 8, 9])
        curve = [[k, k * k, (k * k * k) // 4, (k * k + 3 * k) % 11] for k in range(-5, 5)]
        for direction in product((-1, 0, 1), repeat=4):
            self.assertEqual(most(4, list(direction), curve), reference.most(4, direction, curve))

    def test_answer_does_not_hang_on_the_order_told(self):
        points = [[1, 2, 3], [4, 0, -3], [2, 2, 2], [-7, 1, 0], [0, 0, 9], [3, 3, 3]]
        for direction in ([1, 1, 1], [0, 0, 0], [-1, 2, 0], [3, -3, 1]):
            answer = reference.most(3, direction, points)
            for k in range(6):
                self.assertEqual(most(3, direction, points[k:] + points[:k]), answer)
                self.assertEqual(most(3, direction, (points[k:] + points[:k])[::-1]), answer)


class Refusals(PointRefusals, unittest.TestCase):
    call = most
    at_the_first = [1, 0, 1, 0]

    def between(self, n):
        return [-1] * n

    def test_count_of_the_directions_numbers(self):
        for n in (2, 3, 4):
            for count in range(9):
                self.assertEqual(most(n, [-1] * count, [[0] * n]), [1, 0, 1, 0] if count == n else [-4])
                self.assertEqual(most(n, [0] * count, [[1] * n]), [1, 0, 1, 0] if count == n else [-4])

    def test_numbers_of_the_direction_out_of_range(self):
        for n in (2, 3, 4):
            for way in range(n):
                for wrong in (101, -101, 1000, 4294967295, -4294967295):
                    direction = [100] * n
                    direction[way] = wrong
                    self.assertEqual(most(n, direction, [[0] * n]), [-4])
                    self.assertEqual(most(n, direction, [[k] * n for k in range(10)]), [-4])
                for right in (100, -100):
                    direction = [0] * n
                    direction[way] = right
                    self.assertEqual(most(n, direction, [[1] * n]), [1, right, 1, 0])

    def test_the_one_told_first(self):
        self.assertEqual(most(5, [], []), [-3])
        self.assertEqual(most(1, [101], [[101]] * 11), [-3])
        self.assertEqual(most(5, [1] * 5, [[0] * 5]), [-3])
        self.assertEqual(most(2, [], []), [-2])
        self.assertEqual(most(2, [101, 0], [[101, 0]] * 11), [-2])
        self.assertEqual(most(3, [1], [[]] * 12), [-2])
        self.assertEqual(most(2, [], [[101, 0]]), [-1])
        self.assertEqual(most(3, [0, 0, 101], [[1, 2], [0, 0, 0]]), [-1])
        self.assertEqual(most(4, [-101] * 4, [[0, 0, 0, 0], [0, 0, 0, 101]]), [-1])
        self.assertEqual(most(4, [-101] * 5, [[0, 0, 0, 0]]), [-4])


class EachCallByItself(unittest.TestCase):
    def test_what_is_handed_in_is_not_changed(self):
        for n, direction, points in ((2, [3, 4], TRIANGLE + TRIANGLE), (3, [1, 0, 1], [[1, 2, 3], [3, 2, 1]]),
                                     (4, [1, 1, 1, 1], CROSS), (2, [1], TRIANGLE), (2, [0, 101], TRIANGLE),
                                     (2, [0, 1], [[101, 0]])):
            before = (list(direction), [list(point) for point in points])
            answer = most(n, reference.Frozen(direction), reference.frozen(points))
            self.assertEqual(most(n, direction, points), answer)
            self.assertEqual((direction, points), before)

    def test_a_second_call_answers_as_the_first(self):
        first = most(2, [3, 4], TRIANGLE)
        first.clear()
        most(3, [1, 1, 1], PYRAMID).append(5)
        most(9, [], [])
        self.assertEqual(most(2, [3, 4], TRIANGLE), [2, 12, 1, 1, 2])
        self.assertEqual(most(3, [1, 1, 1], PYRAMID), [1, 5, 1, 1])

    def test_only_lists_of_whole_numbers_are_answered(self):
        for answer in (most(2, [3, 4], TRIANGLE), most(2, [0, 0], TRIANGLE), most(2, [], TRIANGLE)):
            self.assertIs(type(answer), list)
            for number in answer:
                self.assertIs(type(number), int)


if __name__ == "__main__":
    unittest.main()
