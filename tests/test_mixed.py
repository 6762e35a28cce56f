"""mixed: of which fewest corners a place is mixed, or beyond which side it lies."""

import unittest
from fractions import Fraction
from itertools import product

from pointbodies.bodies import hull, mixed, where
from tests import reference
from tests.places import CROSS, PYRAMID, TEN, TRIANGLE, told, tries
from tests.refused import PlaceRefusals

SIMPLEX = [[7, 7, 7, 7], [8, 7, 7, 7], [7, 9, 7, 7], [7, 7, 10, 7], [7, 7, 7, 11]]
SQUARE = [[2, 2], [0, 0], [2, 0], [0, 2]]
CUBE = [list(point) for point in product((0, 2), repeat=3)]


def of(*numbers_and_parts):
    """The answer for a mixture of corners, each told by its number and a text like 2/3."""
    answer = [1, len(numbers_and_parts) // 2]
    for number, part in zip(numbers_and_parts[::2], map(Fraction, numbers_and_parts[1::2])):
        answer += [number, part.numerator, part.denominator]
    return answer


def put_together(n, answer, points):
    """The place that a mixture's parts of the corners make, and the parts together."""
    body = hull(n, points)
    corners = [reference.fractions(body[2 + 2 * n * k:2 + 2 * n * (k + 1)]) for k in range(body[1])]
    numbers = answer[2::3]
    parts = [Fraction(above, below) for above, below in zip(answer[3::3], answer[4::3])]
    place = tuple(sum(part * corners[number][k] for number, part in zip(numbers, parts)) for k in range(n))
    return place, sum(parts)


class Ordinary(unittest.TestCase):
    def test_plane(self):
        self.assertEqual(mixed(2, told(4, 0), TRIANGLE), [1, 1, 2, 1, 1])
        self.assertEqual(mixed(2, told(2, "3/2"), TRIANGLE), [1, 2, 1, 1, 2, 2, 1, 2])
        self.assertEqual(mixed(2, told(3, 0), TRIANGLE), [1, 2, 0, 1, 4, 2, 3, 4])
        self.assertEqual(mixed(2, told(0, 2), TRIANGLE), [1, 2, 0, 1, 3, 1, 2, 3])
        self.assertEqual(mixed(2, told("1/2", "1/3"), TRIANGLE), [1, 3, 0, 55, 72, 1, 1, 9, 2, 1, 8])
        self.assertEqual(mixed(2, told(2, 2), TRIANGLE), [0, 3, 4, 12])
        self.assertEqual(mixed(2, told(-1, 1), TRIANGLE), [0, -1, 0, 0])
        self.assertEqual(mixed(2, told(1, "-1/9"), TRIANGLE), [0, 0, -1, 0])

    def test_three_dimensions(self):
        self.assertEqual(mixed(3, told(0, 3, 0), PYRAMID), of(2, "1"))
        self.assertEqual(mixed(3, told(1, "3/2", 0), PYRAMID), of(2, "1/2", 3, "1/2"))
        self.assertEqual(mixed(3, told("2/3", 1, "5/3"), PYRAMID), of(1, "1/3", 2, "1/3", 3, "1/3"))
        self.assertEqual(mixed(3, told("1/2", "1/2", "1/2"), PYRAMID),
                         [1, 4, 0, 29, 60, 1, 1, 10, 2, 1, 6, 3, 1, 4])
        self.assertEqual(mixed(3, told(1, 1, 1), PYRAMID), [0, 15, 10, 6, 30])
        self.assertEqual(mixed(3, told(1, 1, "-1/2"), PYRAMID), [0, 0, 0, -1, 0])

    def test_four_dimensions(self):
        self.assertEqual(mixed(4, told(7, 9, 7, 7), SIMPLEX), of(3, "1"))
        self.assertEqual(mixed(4, told(7, "17/2", 7, 8), SIMPLEX), of(1, "1/4", 3, "3/4"))
        self.assertEqual(mixed(4, told("22/3", 7, 8, 7), SIMPLEX), of(0, "1/3", 2, "1/3", 4, "1/3"))
        self.assertEqual(mixed(4, told("57/8", "29/4", "31/4", 9), SIMPLEX),
                         of(1, "1/2", 2, "1/4", 3, "1/8", 4, "1/8"))
        self.assertEqual(mixed(4, told("71/10", "36/5", "15/2", "22/3"), SIMPLEX),
                         [1, 5, 0, 11, 20, 1, 1, 12, 2, 1, 6, 3, 1, 10, 4, 1, 10])
        self.assertEqual(mixed(4, told(8, 9, 10, 11), SIMPLEX), [0, 12, 6, 4, 3, 187])
        self.assertEqual(mixed(4, told(7, 7, 7, "6999/1000"), SIMPLEX), [0, 0, 0, 0, -1, -7])

    def test_against_the_words(self):
        seen = {}
        for n, place, points in tries(7, 8):
            with self.subTest(n=n, place=place, points=points):
                answer = mixed(n, place, points)
                self.assertEqual(answer, reference.mixed(n, place, points))
                self.assertEqual(answer[0], min(1, where(n, place, points)[0]))
                if answer[0] == 1:
                    self.assertEqual(put_together(n, answer, points), (reference.fractions(place), 1))
                seen[n, answer[0], answer[1] if answer[0] else len(answer)] = True
        for n in (2, 3, 4):
            self.assertIn((n, 0, 1), seen)
            self.assertIn((n, 0, n + 2), seen)
            for count in range(1, n + 2):
                self.assertIn((n, 1, count), seen)


class Edges(unittest.TestCase):
    def test_at_each_corner(self):
        for n, points in ((2, TRIANGLE), (2, TEN), (3, PYRAMID), (3, CUBE), (4, SIMPLEX), (4, CROSS)):
            for number, corner in enumerate(sorted(points)):
                self.assertEqual(mixed(n, told(*corner), points), [1, 1, number, 1, 1])
                self.assertEqual(mixed(n, told(*corner), points[::-1]), [1, 1, number, 1, 1])

    def test_points_that_are_no_corners(self):
        points = [[1, 1], [0, 5], [6, 0], [0, 0], [2, 0], [0, 6], [3, 3], [2, 3]]
        self.assertEqual(mixed(2, told(3, 3), points), of(1, "1/2", 2, "1/2"))
        self.assertEqual(mixed(2, told(2, 0), points), of(0, "2/3", 2, "1/3"))
        self.assertEqual(mixed(2, told(0, 5), points), of(0, "1/6", 1, "5/6"))
        self.assertEqual(mixed(2, told(1, 1), points), of(0, "2/3", 1, "1/6", 2, "1/6"))
        self.assertEqual(mixed(2, told(6, 0), points), of(2, "1"))
        self.assertEqual(mixed(2, told(0, 6), points), of(1, "1"))
        line = [[0, 0, 0], [1, 1, 1], [2, 2, 2], [3, 3, 3]]
        self.assertEqual(mixed(3, told(1, 1, 1), line), of(0, "2/3", 1, "1/3"))
        self.assertEqual(mixed(3, told(3, 3, 3), line), of(1, "1"))

    def test_first_of_several_mixtures(self):
        self.assertEqual(mixed(2, told(1, 1), SQUARE), of(0, "1/2", 3, "1/2"))
        self.assertEqual(mixed(2, told("1/2", 1), SQUARE), of(0, "1/4", 1, "1/2", 2, "1/4"))
        self.assertEqual(mixed(2, told("3/2", 1), SQUARE), of(0, "1/4", 2, "1/4", 3, "1/2"))
        self.assertEqual(mixed(3, told(1, 1, 1), CUBE), of(0, "1/2", 7, "1/2"))
        self.assertEqual(mixed(3, told(1, 1, 0), CUBE), of(0, "1/2", 6, "1/2"))
        self.assertEqual(mixed(3, told("1/2", "1/2", "1/2"), CUBE), of(0, "3/4", 7, "1/4"))
        self.assertEqual(mixed(3, told(1, 1, "1/2"), CUBE), of(0, "1/4", 1, "1/4", 6, "1/2"))
        self.assertEqual(mixed(4, told(0, 0, 0, 0), CROSS), of(0, "1/2", 7, "1/2"))
        self.assertEqual(mixed(4, told("-1/2", 0, 0, "1/2"), CROSS), of(0, "1/2", 4, "1/2"))
        self.assertEqual(mixed(4, told(0, "1/2", 0, 0), CROSS), of(1, "1/4", 6, "3/4"))
        self.assertEqual(mixed(4, told("1/4", "1/4", 0, 0), CROSS), of(0, "1/4", 6, "1/4", 7, "1/2"))

    def test_fewest_comes_before_first(self):
        self.assertEqual(mixed(2, told(0, 0), TEN), of(0, "1/2", 9, "1/2"))
        self.assertEqual(mixed(2, told(3, 0), TEN), of(0, "1/5", 9, "4/5"))
        self.assertEqual(mixed(2, told("7/2", "7/2"), TEN), of(6, "1/2", 8, "1/2"))
        points = [[0, 0], [0, 9], [9, 0], [10, 10]]
        self.assertEqual(mixed(2, told(5, 5), points), of(0, "1/2", 3, "1/2"))
        self.assertEqual(mixed(2, told("9/2", "9/2"), points), of(0, "11/20", 3, "9/20"))

    def test_first_of_several_sides(self):
        self.assertEqual(mixed(2, told(-1, -1), TRIANGLE), [0, -1, 0, 0])
        self.assertEqual(mixed(2, told(-1, 5), TRIANGLE), [0, -1, 0, 0])
        self.assertEqual(mixed(2, told(5, -1), TRIANGLE), [0, 0, -1, 0])
        self.assertEqual(mixed(2, told(6, -1), TRIANGLE), [0, 0, -1, 0])
        self.assertEqual(mixed(3, told(-1, -1, -1), PYRAMID), [0, -1, 0, 0, 0])
        self.assertEqual(mixed(3, told(0, -1, -1), PYRAMID), [0, 0, -1, 0, 0])
        self.assertEqual(mixed(3, told(9, 9, -1), PYRAMID), [0, 0, 0, -1, 0])
        self.assertEqual(mixed(4, told(2, -2, 2, 2), CROSS), [0, -1, -1, 1, 1, 1])
        self.assertEqual(mixed(4, told(3, 3, 3, 1), CROSS), [0, -1, 1, 1, -1, 1])
        self.assertEqual(mixed(4, told(1, 1, 1, 1), CROSS), [0, -1, 1, 1, 1, 1])
        self.assertEqual(mixed(4, told("1/3", "1/3", "1/3", "1/3"), CROSS), [0, 1, 1, 1, 1, 1])
        self.assertEqual(mixed(2, told(-6, 0), TEN), [0, -3, -1, 15])
        self.assertEqual(mixed(2, told(9, 0), TEN), [0, 1, -1, 7])

    def test_on_the_bound_of_a_side_but_beyond_another(self):
        self.assertEqual(mixed(2, told(0, 4), TRIANGLE), [0, 3, 4, 12])
        self.assertEqual(mixed(2, told(8, -3), TRIANGLE), [0, 0, -1, 0])
        self.assertEqual(mixed(3, told(0, 0, 6), PYRAMID), [0, 15, 10, 6, 30])

    def test_one_point(self):
        self.assertEqual(mixed(2, told(3, 4), [[3, 4]]), of(0, "1"))
        for place in (told(6, 8), told(0, 0), told(3, 5), told("3001/1000", 4)):
            self.assertEqual(mixed(2, place, [[3, 4]]), [0])
        self.assertEqual(mixed(3, told(0, 0, 0), [[0, 0, 0]]), of(0, "1"))
        self.assertEqual(mixed(3, told(0, 0, "1/1000"), [[0, 0, 0]]), [0])
        self.assertEqual(mixed(4, told(100, -100, 0, 1), [[100, -100, 0, 1]]), of(0, "1"))
        self.assertEqual(mixed(4, told(100, -100, 0, 2), [[100, -100, 0, 1]]), [0])

    def test_points_told_twice(self):
        self.assertEqual(mixed(2, told(3, 4), [[3, 4]] * 10), of(0, "1"))
        self.assertEqual(mixed(2, told(4, 3), [[3, 4]] * 10), [0])
        self.assertEqual(mixed(2, told(2, "3/2"), TRIANGLE * 3), of(1, "1/2", 2, "1/2"))
        self.assertEqual(mixed(2, told("1/2", "1/3"), TRIANGLE * 3), of(0, "55/72", 1, "1/9", 2, "1/8"))
        self.assertEqual(mixed(2, told(2, 2), TRIANGLE * 3), [0, 3, 4, 12])
        self.assertEqual(mixed(3, told(1, 2, "10/3"), [[1, 2, 3], [1, 2, 4]] * 5), of(0, "2/3", 1, "1/3"))

    def test_points_on_a_line(self):
        line = [[2, 2], [0, 0], [1, 1]]
        self.assertEqual(mixed(2, told(1, 1), line), of(0, "1/2", 1, "1/2"))
        self.assertEqual(mixed(2, told("1/3", "1/3"), line), of(0, "5/6", 1, "1/6"))
        self.assertEqual(mixed(2, told(2, 2), line), of(1, "1"))
        for place in (told(3, 3), told(-1, -1), told(1, 2), told("1/3", "333/1000")):
            self.assertEqual(mixed(2, place, line), [0])
        line = [[0, 0, 0, 3], [0, 0, 0, 1]]
        self.assertEqual(mixed(4, told(0, 0, 0, "3/2"), line), of(0, "3/4", 1, "1/4"))
        self.assertEqual(mixed(4, told(0, 0, 0, 0), line), [0])
        self.assertEqual(mixed(4, told(1, 0, 0, 2), line), [0])

    def test_points_on_a_plane(self):
        leaning = [[x, y, x + y] for x, y in TRIANGLE]
        self.assertEqual(mixed(3, told("1/2", "1/3", "5/6"), leaning), of(0, "55/72", 1, "1/9", 2, "1/8"))
        self.assertEqual(mixed(3, told(2, "3/2", "7/2"), leaning), of(1, "1/2", 2, "1/2"))
        for place in (told(2, 2, 4), told(1, 1, 1), told("1/2", "1/3", "4/5")):
            self.assertEqual(mixed(3, place, leaning), [0])
        square = [[x, 1, y, x - y] for x, y in SQUARE]
        self.assertEqual(mixed(4, told(1, 1, 1, 0), square), of(0, "1/2", 3, "1/2"))
        self.assertEqual(mixed(4, told("1/2", 1, 1, "-1/2"), square), of(0, "1/4", 1, "1/2", 2, "1/4"))
        for place in (told(3, 1, 3, 0), told(1, 1, 1, 1), told(1, 2, 1, 0)):
            self.assertEqual(mixed(4, place, square), [0])

    def test_points_in_three_of_four_dimensions(self):
        cube = [[x, y, 9, z] for x, y, z in CUBE] + [[1, 1, 9, 1]]
        self.assertEqual(mixed(4, told(1, 1, 9, 1), cube), of(0, "1/2", 7, "1/2"))
        self.assertEqual(mixed(4, told("1/2", "1/3", 9, "1/5"), cube),
                         of(0, "29/60", 1, "1/10", 2, "1/6", 4, "1/4"))
        for place in (told(3, 1, 9, 1), told(1, 1, 8, 1), told(1, 1, "9001/1000", 1)):
            self.assertEqual(mixed(4, place, cube), [0])

    def test_common_divisor_above_and_below(self):
        self.assertEqual(mixed(2, [2, 4, 2, 6], TRIANGLE), of(0, "55/72", 1, "1/9", 2, "1/8"))
        self.assertEqual(mixed(2, [4000, 1000, 0, 7], TRIANGLE), of(2, "1"))
        self.assertEqual(mixed(2, [8, 4, 6, 4], TRIANGLE), of(1, "1/2", 2, "1/2"))
        self.assertEqual(mixed(2, [8, 4, 8, 4], TRIANGLE), [0, 3, 4, 12])
        self.assertEqual(mixed(3, [4, 6, 10, 10, 50, 30], PYRAMID), of(1, "1/3", 2, "1/3", 3, "1/3"))
        self.assertEqual(mixed(4, [0, 9, 0, 1000, 4, 8, 0, 2], CROSS), of(2, "1/4", 5, "3/4"))
        self.assertEqual(mixed(2, [9, 3, 80, 20], [[3, 4]]), of(0, "1"))

    def test_furthest_numbers_above_and_below(self):
        for n in (2, 3, 4):
            corners = [[100] * n, [-100] * n]
            self.assertEqual(mixed(n, [100000, 1000] * n, corners), of(1, "1"))
            self.assertEqual(mixed(n, [-100000, 1000] * n, corners), of(0, "1"))
            self.assertEqual(mixed(n, [99999, 1000] * n, corners), of(0, "1/200000", 1, "199999/200000"))
            self.assertEqual(mixed(n, [1, 1] * n, corners), of(0, "99/200", 1, "101/200"))
            for above, below in ((100000, 999), (-100000, 999), (100000, 1), (-100000, 1)):
                self.assertEqual(mixed(n, [above, below] * n, corners), [0])
        self.assertEqual(mixed(2, [100000, 1, -100000, 1], TRIANGLE), [0, 0, -1, 0])
        self.assertEqual(mixed(2, [1, 1000, 1, 999], TRIANGLE), of(0, "11981003/11988000", 1, "1/2997", 2, "1/4000"))
        self.assertEqual(mixed(2, [3992, 999, 3, 1000], TRIANGLE),
                         of(0, Fraction(1, 12 * 83250), 1, "1/1000", 2, "998/999"))
        self.assertEqual(mixed(2, [3667, 999, 247, 1000], TRIANGLE), [0, 3, 4, 12])

    def test_ten_points(self):
        self.assertEqual(mixed(2, told(1, 1), TEN), reference.mixed(2, told(1, 1), TEN))
        curve = [[k, k * k, (k * k * k) // 4, (k * k + 3 * k) % 11] for k in range(-5, 5)]
        middle = [number for way in zip(*curve) for number in (sum(way), 10)]
        answer = mixed(4, middle, curve)
        self.assertEqual(answer, reference.mixed(4, middle, curve))
        self.assertEqual(put_together(4, answer, curve), (reference.fractions(middle), 1))
        for place in ([997, 998, 13000, 999, -7, 1000, 995, 499], told(0, 0, 0, 10)):
            self.assertEqual(mixed(4, place, curve), reference.mixed(4, place, curve))

    def test_answer_does_not_hang_on_the_order_told(self):
        points = [[1, 2, 3], [4, 0, -3], [2, 2, 2], [-7, 1, 0], [0, 0, 9], [3, 3, 3]]
        for place in (told(0, 1, 2), told(3, 3, 3), told("1/3", "2/3", 9)):
            answer = reference.mixed(3, place, points)
            for k in range(6):
                self.assertEqual(mixed(3, place, points[k:] + points[:k]), answer)
                self.assertEqual(mixed(3, place, (points[k:] + points[:k])[::-1]), answer)


class Refusals(PlaceRefusals, unittest.TestCase):
    call = mixed
    at_the_first = [1, 1, 0, 1, 1]


class EachCallByItself(unittest.TestCase):
    def test_what_is_handed_in_is_not_changed(self):
        for n, place, points in ((2, [2, 4, 2, 6], TRIANGLE + TRIANGLE), (3, told(2, 2, 2), [[1, 2, 3], [3, 2, 1]]),
                                 (4, [9, 1, 0, 1, 0, 1, 0, 1], CROSS), (2, [0, 0, 1, 1], TRIANGLE),
                                 (2, [0, 1, 0, 1], [[101, 0]])):
            before = (list(place), [list(point) for point in points])
            answer = mixed(n, reference.Frozen(place), reference.frozen(points))
            self.assertEqual(mixed(n, place, points), answer)
            self.assertEqual((place, points), before)

    def test_a_second_call_answers_as_the_first(self):
        first = mixed(2, told(3, 0), TRIANGLE)
        first.clear()
        mixed(3, told(1, 1, 1), PYRAMID).append(5)
        mixed(9, [], [])
        self.assertEqual(mixed(2, told(3, 0), TRIANGLE), of(0, "1/4", 2, "3/4"))
        self.assertEqual(mixed(3, told(1, 1, 1), PYRAMID), [0, 15, 10, 6, 30])

    def test_only_lists_of_whole_numbers_are_answered(self):
        for answer in (mixed(2, told(1, 1), TRIANGLE), mixed(2, told(9, 1), TRIANGLE), mixed(2, told(4, 0), TRIANGLE),
                       mixed(2, told(9, 1), [[0, 0]]), mixed(2, [], TRIANGLE)):
            self.assertIs(type(answer), list)
            for number in answer:
                self.assertIs(type(number), int)


if __name__ == "__main__":
    unittest.main()
