"""hull: the body between points."""

import unittest
from itertools import product
from random import Random

from pointbodies.bodies import hull
from tests import reference
from tests.reference import body


TRIANGLE = [[0, 0], [4, 0], [0, 3]]
TRIANGLE_BODY = [2, 3, 0, 1, 0, 1, 0, 1, 3, 1, 4, 1, 0, 1, 3, -1, 0, 0, 0, -1, 0, 3, 4, 12]


class Ordinary(unittest.TestCase):
    def test_triangle(self):
        self.assertEqual(hull(2, TRIANGLE), TRIANGLE_BODY)

    def test_five_corners_in_the_plane(self):
        points = [[3, 1], [-2, 0], [0, -3], [1, 4], [2, -2], [0, 0]]
        corners = [(-2, 0), (0, -3), (1, 4), (2, -2), (3, 1)]
        sides = [(-4, 3, 8), (-3, -2, 6), (1, -2, 6), (3, -1, 8), (3, 2, 11)]
        self.assertEqual(hull(2, points), body(2, corners, sides))

    def test_three_dimensions(self):
        points = [[0, 0, 0], [2, 0, 0], [0, 3, 0], [0, 0, 5]]
        corners = [(0, 0, 0), (0, 0, 5), (0, 3, 0), (2, 0, 0)]
        sides = [(-1, 0, 0, 0), (0, -1, 0, 0), (0, 0, -1, 0), (15, 10, 6, 30)]
        self.assertEqual(hull(3, points), body(3, corners, sides))

    def test_eight_sides(self):
        points = [[1, 0, 0], [-1, 0, 0], [0, 1, 0], [0, -1, 0], [0, 0, 1], [0, 0, -1]]
        sides = [signs + (1,) for signs in product((-1, 1), repeat=3)]
        self.assertEqual(hull(3, points), body(3, sorted(map(tuple, points)), sides))

    def test_four_dimensions(self):
        points = [[7, 7, 7, 7], [8, 7, 7, 7], [7, 9, 7, 7], [7, 7, 10, 7], [7, 7, 7, 11]]
        corners = [(7, 7, 7, 7), (7, 7, 7, 11), (7, 7, 10, 7), (7, 9, 7, 7), (8, 7, 7, 7)]
        sides = [(-1, 0, 0, 0, -7), (0, -1, 0, 0, -7), (0, 0, -1, 0, -7), (0, 0, 0, -1, -7), (12, 6, 4, 3, 187)]
        self.assertEqual(hull(4, points), body(4, corners, sides))

    def test_sixteen_sides(self):
        points = [[sign * (k == place) for k in range(4)] for place in range(4) for sign in (1, -1)]
        sides = [signs + (1,) for signs in product((-1, 1), repeat=4)]
        self.assertEqual(hull(4, points), body(4, sorted(map(tuple, points)), sides))

    def test_against_the_words(self):
        random = Random(2)
        for n, reach, times in ((2, 2, 60), (2, 100, 40), (3, 1, 40), (3, 100, 20), (4, 1, 12), (4, 100, 6)):
            for time in range(times):
                count = random.randint(1, 10)
                points = [[random.randint(-reach, reach) for k in range(n)] for point in range(count)]
                with self.subTest(n=n, points=points):
                    self.assertEqual(hull(n, points), reference.hull(n, points))

    def test_against_the_words_in_fewer_dimensions(self):
        random = Random(3)
        for n in (2, 3, 4):
            for lie in range(n):
                for time in range(8):
                    ways = [[random.randint(-4, 4) for k in range(n)] for way in range(lie)]
                    points = []
                    for point in range(random.randint(1, 10)):
                        steps = [random.randint(-2, 2) for way in ways]
                        points.append([5 + sum(s * w[k] for s, w in zip(steps, ways)) for k in range(n)])
                    with self.subTest(n=n, points=points):
                        self.assertEqual(hull(n, points), reference.hull(n, points))


class Edges(unittest.TestCase):
    def test_one_point(self):
        self.assertEqual(hull(2, [[0, 0]]), [0, 1, 0, 1, 0, 1])
        self.assertEqual(hull(3, [[0, -5, 7]]), [0, 1, 0, 1, -5, 1, 7, 1])
        self.assertEqual(hull(4, [[100, -100, 0, 1]]), [0, 1, 100, 1, -100, 1, 0, 1, 1, 1])

    def test_points_told_twice(self):
        self.assertEqual(hull(2, TRIANGLE + TRIANGLE), TRIANGLE_BODY)
        self.assertEqual(hull(2, [[3, 4]] * 10), [0, 1, 3, 1, 4, 1])
        self.assertEqual(hull(3, [[1, 2, 3], [1, 2, 4]] * 5), [1, 2, 1, 1, 2, 1, 3, 1, 1, 1, 2, 1, 4, 1])

    def test_points_on_a_line(self):
        self.assertEqual(hull(2, [[2, 2], [0, 0], [1, 1]]), body(1, [(0, 0), (2, 2)]))
        self.assertEqual(hull(2, [[5, 1], [5, -1], [5, 0]]), body(1, [(5, -1), (5, 1)]))
        self.assertEqual(hull(2, [[1, 5], [-1, 5]]), body(1, [(-1, 5), (1, 5)]))
        self.assertEqual(hull(3, [[3, -3, 6], [1, -1, 2], [-1, 1, -2]]), body(1, [(-1, 1, -2), (3, -3, 6)]))
        self.assertEqual(hull(4, [[0, 0, 0, 3], [0, 0, 0, 1], [0, 0, 0, 2]]), body(1, [(0, 0, 0, 1), (0, 0, 0, 3)]))

    def test_points_along_the_first_numbers(self):
        self.assertEqual(hull(2, [[1, 0], [-1, 0], [0, 0]]), body(1, [(-1, 0), (1, 0)]))
        self.assertEqual(hull(3, [[1, -7, 0], [-1, -7, 0], [0, -7, 0]]), body(1, [(-1, -7, 0), (1, -7, 0)]))
        self.assertEqual(hull(4, [[2, 0, 0, 0], [1, 0, 0, 0], [5, 0, 0, 0]]), body(1, [(1, 0, 0, 0), (5, 0, 0, 0)]))
        flat = [[x, y, 0] for x, y in TRIANGLE + [[1, 1]]]
        self.assertEqual(hull(3, flat), body(2, [(0, 0, 0), (0, 3, 0), (4, 0, 0)]))
        self.assertEqual(hull(4, [p + [0] for p in flat]), body(2, [(0, 0, 0, 0), (0, 3, 0, 0), (4, 0, 0, 0)]))

    def test_points_on_a_plane(self):
        square = [[x, y, x + y] for x in (0, 1, 2) for y in (0, 1, 2)]
        self.assertEqual(hull(3, square), body(2, [(0, 0, 0), (0, 2, 2), (2, 0, 2), (2, 2, 4)]))
        upright = [[7, x, y] for x, y in TRIANGLE] + [[7, 1, 1]]
        self.assertEqual(hull(3, upright), body(2, [(7, 0, 0), (7, 0, 3), (7, 4, 0)]))
        self.assertEqual(hull(4, [[x, 1, y, x - y] for x, y in TRIANGLE + [[1, 1]]]),
                         body(2, [(0, 1, 0, 0), (0, 1, 3, -3), (4, 1, 0, 4)]))

    def test_points_in_three_of_four_dimensions(self):
        cube = [[x, y, 9, z] for x, y, z in product((0, 2), repeat=3)] + [[1, 1, 9, 1], [1, 0, 9, 0]]
        self.assertEqual(hull(4, cube), body(3, sorted(map(tuple, cube[:8]))))
        leaning = [[x, y, z, x + y + z] for x, y, z in product((0, 1), repeat=3)]
        self.assertEqual(hull(4, leaning), body(3, sorted(map(tuple, leaning))))

    def test_mixtures_on_a_bound_and_inside(self):
        points = [[0, 0], [6, 0], [0, 6], [2, 0], [3, 3], [0, 5], [1, 1], [2, 3]]
        corners = [(0, 0), (0, 6), (6, 0)]
        self.assertEqual(hull(2, points), body(2, corners, [(-1, 0, 0), (0, -1, 0), (1, 1, 6)]))
        points = [[0, 0, 0], [4, 0, 0], [0, 4, 0], [0, 0, 4], [1, 1, 1], [2, 2, 0], [1, 1, 2], [1, 1, 0]]
        corners = [(0, 0, 0), (0, 0, 4), (0, 4, 0), (4, 0, 0)]
        sides = [(-1, 0, 0, 0), (0, -1, 0, 0), (0, 0, -1, 0), (1, 1, 1, 4)]
        self.assertEqual(hull(3, points), body(3, corners, sides))

    def test_mixture_inside_four_dimensions(self):
        points = [[5 * (k == place) for k in range(4)] for place in range(5)]
        corners = sorted(map(tuple, points))
        sides = [(-1, 0, 0, 0, 0), (0, -1, 0, 0, 0), (0, 0, -1, 0, 0), (0, 0, 0, -1, 0), (1, 1, 1, 1, 5)]
        extra = [[1, 1, 1, 1], [2, 1, 1, 1], [0, 0, 2, 3], [1, 1, 0, 1]]
        self.assertEqual(hull(4, points + extra), body(4, corners, sides))

    def test_more_than_n_points_on_a_bound(self):
        cube = [list(p) for p in product((0, 1), repeat=3)]
        sides = [(-1, 0, 0, 0), (0, -1, 0, 0), (0, 0, -1, 0), (0, 0, 1, 1), (0, 1, 0, 1), (1, 0, 0, 1)]
        self.assertEqual(hull(3, cube), body(3, cube, sides))
        corners = [(0, 0, 0, 0), (0, 0, 0, 1), (0, 0, 1, 0), (0, 1, 0, 0), (0, 1, 0, 1), (0, 1, 1, 0),
                   (1, 0, 0, 0), (1, 0, 0, 1), (1, 0, 1, 0)]
        sides = [(-1, 0, 0, 0, 0), (0, -1, 0, 0, 0), (0, 0, -1, 0, 0), (0, 0, 0, -1, 0), (0, 0, 1, 1, 1),
                 (1, 1, 0, 0, 1)]
        self.assertEqual(hull(4, [list(p) for p in reversed(corners)]), body(4, corners, sides))

    def test_furthest_numbers(self):
        square = [[100, 100], [-100, 100], [100, -100], [-100, -100]]
        sides = [(-1, 0, 100), (0, -1, 100), (0, 1, 100), (1, 0, 100)]
        self.assertEqual(hull(2, square), body(2, sorted(map(tuple, square)), sides))
        cube = [list(p) for p in product((-100, 100), repeat=3)]
        sides = [(-1, 0, 0, 100), (0, -1, 0, 100), (0, 0, -1, 100), (0, 0, 1, 100), (0, 1, 0, 100), (1, 0, 0, 100)]
        self.assertEqual(hull(3, cube), body(3, cube, sides))
        wide = [[100, -100, -100, -99], [-100, 100, -100, 98], [-100, -100, 100, 97], [100, 99, 98, -100],
                [-100, -99, -97, -100]]
        self.assertEqual(hull(4, wide), reference.hull(4, wide))

    def test_ten_points(self):
        corners = [(-5, 0), (-4, -3), (-4, 3), (-3, -4), (-3, 4), (3, -4), (3, 4), (4, -3), (4, 3), (5, 0)]
        sides = [(-3, -1, 15), (-3, 1, 15), (-1, -1, 7), (-1, 1, 7), (0, -1, 4), (0, 1, 4), (1, -1, 7), (1, 1, 7),
                 (3, -1, 15), (3, 1, 15)]
        self.assertEqual(hull(2, [list(p) for p in corners]), body(2, corners, sides))

    def test_ten_points_in_four_dimensions(self):
        curve = [[t, t * t, t ** 3, t ** 4] for t in (-3, -2, -1, 0, 1, 2, 3)]
        self.assertEqual(hull(4, curve + curve[:3])[:2], [4, 7])
        curve = [[k, k * k, (k * k * k) // 4, (k * k + 3 * k) % 11] for k in range(-5, 5)]
        self.assertEqual(hull(4, curve), reference.hull(4, curve))

    def test_order_of_points_is_by_the_first_number_that_differs(self):
        points = [[-1, 9], [-10, 0], [10, -9], [9, 8], [-1, -9]]
        self.assertEqual(hull(2, points)[2:22:2], [-10, 0, -1, -9, -1, 9, 9, 8, 10, -9])

    def test_answer_does_not_hang_on_the_order_told(self):
        points = [[1, 2, 3], [4, 0, -3], [2, 2, 2], [-7, 1, 0], [0, 0, 9], [3, 3, 3]]
        answer = hull(3, points)
        for k in range(6):
            self.assertEqual(hull(3, points[k:] + points[:k]), answer)
            self.assertEqual(hull(3, (points[k:] + points[:k])[::-1]), answer)

    def test_sides_without_a_common_divisor(self):
        sides = [(-1, 0, 0), (0, -1, 0), (1, 1, 60)]
        self.assertEqual(hull(2, [[0, 0], [60, 0], [0, 60]]), body(2, [(0, 0), (0, 60), (60, 0)], sides))
        sides = [(-2, 1, 0), (0, -1, 0), (2, 1, 8)]
        self.assertEqual(hull(2, [[0, 0], [4, 0], [2, 4]]), body(2, [(0, 0), (2, 4), (4, 0)], sides))


class Refusals(unittest.TestCase):
    def test_n(self):
        for n in (1, 0, -1, -2, 5, 6, 4294967295, -4294967295):
            self.assertEqual(hull(n, [[0] * max(0, min(n, 6))]), [-3])
            self.assertEqual(hull(n, TRIANGLE), [-3])

    def test_count_of_points(self):
        for n in (2, 3, 4):
            self.assertEqual(hull(n, []), [-2])
            self.assertEqual(hull(n, [[k] * n for k in range(11)]), [-2])
            self.assertEqual(hull(n, [[k] * n for k in range(12)]), [-2])
            self.assertEqual(hull(n, [[1] * n] * 11), [-2])

    def test_count_of_numbers(self):
        for n in (2, 3, 4):
            for count in range(7):
                answer = hull(n, [[0] * count])
                self.assertEqual(answer, [-1] if count != n else [0, 1] + [0, 1] * n)
                self.assertEqual(hull(n, [[1] * n, [0] * count, [2] * n])[0] < 0, count != n)

    def test_numbers_out_of_range(self):
        for n in (2, 3, 4):
            for place in range(n):
                for wrong in (101, -101, 1000, 4294967295, -4294967295):
                    point = [0] * n
                    point[place] = wrong
                    self.assertEqual(hull(n, [point]), [-1])
                    self.assertEqual(hull(n, [[1] * n, [2] * n, point]), [-1])
                    self.assertEqual(hull(n, [[0] * n] * 9 + [point]), [-1])
                for right in (100, -100):
                    point = [0] * n
                    point[place] = right
                    self.assertEqual(hull(n, [point])[:2], [0, 1])

    def test_the_one_told_first(self):
        self.assertEqual(hull(5, []), [-3])
        self.assertEqual(hull(1, [[101]] * 11), [-3])
        self.assertEqual(hull(0, [[]]), [-3])
        self.assertEqual(hull(2, [[101, 0]] * 11), [-2])
        self.assertEqual(hull(3, [[]] * 12), [-2])
        self.assertEqual(hull(3, [[1, 2], [101, 0, 0]]), [-1])


class EachCallByItself(unittest.TestCase):
    def test_what_is_handed_in_is_not_changed(self):
        for n, points in ((2, TRIANGLE + TRIANGLE), (3, [[1, 2, 3], [3, 2, 1]]), (4, [[9, 8, 7, 6]]), (2, [[101, 0]])):
            before = [list(point) for point in points]
            answer = hull(n, reference.frozen(points))
            self.assertEqual(hull(n, points), answer)
            self.assertEqual(points, before)

    def test_a_second_call_answers_as_the_first(self):
        points = [list(point) for point in TRIANGLE]
        first = hull(2, points)
        first.clear()
        hull(3, [[0, 0, 0], [1, 2, 3]])
        hull(9, [])
        self.assertEqual(hull(2, points), TRIANGLE_BODY)

    def test_only_lists_of_whole_numbers_are_answered(self):
        for answer in (hull(2, TRIANGLE), hull(2, [[0, 0]]), hull(7, [])):
            self.assertIs(type(answer), list)
            for number in answer:
                self.assertIs(type(number), int)


if __name__ == "__main__":
    unittest.main()
