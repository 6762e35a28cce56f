"""cut: the body that half spaces leave of the cube."""

import unittest
from fractions import Fraction
from itertools import product
from random import Random

from pointbodies.bodies import cut
from tests import reference
from tests.reference import body

FAR = (-100, 100)
SQUARE = [2, 4, -100, 1, -100, 1, -100, 1, 100, 1, 100, 1, -100, 1, 100, 1, 100, 1,
          4, -1, 0, 100, 0, -1, 100, 0, 1, 100, 1, 0, 100]
SLANTED = [2, 4, -100, 1, -100, 1, -100, 1, 67, 1, 100, 1, -100, 1, 100, 1, -199, 3,
           4, -1, 0, 100, 0, -1, 100, 1, 0, 100, 2, 3, 1]
NOTHING = [-1, 0]


def cube(n):
    ways = sorted(tuple(sign * (k == place) for k in range(n)) + (100,) for place in range(n) for sign in (1, -1))
    return body(n, list(product(FAR, repeat=n)), ways)


def exactly(n, numbers):
    """Half spaces that together have just the points whose first numbers are these fractions."""
    halves = []
    for place, number in enumerate(numbers):
        front = [number.denominator * (k == place) for k in range(n)]
        halves += [front + [number.numerator], [-a for a in front] + [-number.numerator]]
    return halves


class Ordinary(unittest.TestCase):
    def test_one_half_space_in_the_plane(self):
        self.assertEqual(cut(2, [[2, 3, 1]]), SLANTED)

    def test_a_small_body_in_the_plane(self):
        halves = [[0, 1, 1], [0, -1, 0], [-6, -1, -3], [7, 0, 5]]
        corners = [(Fraction(1, 3), 1), (Fraction(1, 2), 0), (Fraction(5, 7), 0), (Fraction(5, 7), 1)]
        sides = [(-6, -1, -3), (0, -1, 0), (0, 1, 1), (7, 0, 5)]
        self.assertEqual(cut(2, halves), body(2, corners, sides))

    def test_three_dimensions(self):
        halves = [[2, 3, 7, 5], [-1, 0, 0, 0], [0, -1, 0, 0], [0, 0, -1, 0]]
        self.assertEqual(cut(3, halves), [
            3, 4, 0, 1, 0, 1, 0, 1, 0, 1, 0, 1, 5, 7, 0, 1, 5, 3, 0, 1, 5, 2, 0, 1, 0, 1,
            4, -1, 0, 0, 0, 0, -1, 0, 0, 0, 0, -1, 0, 2, 3, 7, 5])

    def test_a_corner_cut_off(self):
        corners = [p for p in product(FAR, repeat=3) if p != (100, 100, 100)]
        corners += [(Fraction(199, 2), 100, 100), (100, Fraction(299, 3), 100), (100, 100, Fraction(399, 4))]
        sides = [(-1, 0, 0, 100), (0, -1, 0, 100), (0, 0, -1, 100), (0, 0, 1, 100), (0, 1, 0, 100), (1, 0, 0, 100),
                 (2, 3, 4, 899)]
        self.assertEqual(cut(3, [[2, 3, 4, 899]]), body(3, sorted(corners), sides))

    def test_four_dimensions(self):
        halves = [[0, 0, 0, -1, 0], [0, 0, -1, 0, 0], [0, -1, 0, 0, 0], [-1, 0, 0, 0, 0], [2, 3, 5, 7, 11]]
        self.assertEqual(cut(4, halves), [
            4, 5, 0, 1, 0, 1, 0, 1, 0, 1, 0, 1, 0, 1, 0, 1, 11, 7, 0, 1, 0, 1, 11, 5, 0, 1,
            0, 1, 11, 3, 0, 1, 0, 1, 11, 2, 0, 1, 0, 1, 0, 1,
            5, -1, 0, 0, 0, 0, 0, -1, 0, 0, 0, 0, 0, -1, 0, 0, 0, 0, 0, -1, 0, 2, 3, 5, 7, 11])

    def test_against_clipping(self):
        random = Random(5)
        for n, reach, bound, times in ((2, 2, 4, 60), (2, 100, 10000, 60), (2, 100, 300, 40), (3, 1, 2, 40),
                                       (3, 100, 300, 20), (3, 100, 10000, 20), (4, 1, 1, 12), (4, 100, 300, 6),
                                       (4, 100, 10000, 8)):
            for time in range(times):
                halves = []
                count = random.randint(0, 7)
                while len(halves) < count:
                    half = [random.randint(-reach, reach) for k in range(n)] + [random.randint(-bound, bound)]
                    if any(half[:n]):
                        halves.append(half)
                with self.subTest(n=n, halves=halves):
                    self.assertEqual(cut(n, halves), reference.cut(n, halves))


class Edges(unittest.TestCase):
    def test_no_half_spaces(self):
        self.assertEqual(cut(2, []), SQUARE)
        for n in (2, 3, 4):
            self.assertEqual(cut(n, []), cube(n))

    def test_nothing_left(self):
        self.assertEqual(cut(2, [[1, 0, -101]]), NOTHING)
        self.assertEqual(cut(2, [[1, 1, 0], [-1, -1, -1]]), NOTHING)
        self.assertEqual(cut(2, [[100, 0, 33], [-100, 0, -34]]), NOTHING)
        self.assertEqual(cut(3, [[1, 1, 1, -301]]), NOTHING)
        self.assertEqual(cut(3, [[1, 0, 0, 0], [0, 1, 0, 0], [-1, -1, 0, -1]]), NOTHING)
        self.assertEqual(cut(4, [[1, 1, 1, 1, -401]]), NOTHING)
        self.assertEqual(cut(4, [[0, 0, 0, -1, -10000]] * 7), NOTHING)

    def test_one_point_left(self):
        self.assertEqual(cut(2, [[1, 1, -200]]), [0, 1, -100, 1, -100, 1])
        self.assertEqual(cut(3, [[1, -1, 1, -300]]), [0, 1, -100, 1, 100, 1, -100, 1])
        self.assertEqual(cut(4, [[1, 1, 1, 1, -400]]), [0, 1] + [-100, 1] * 4)
        self.assertEqual(cut(2, exactly(2, [Fraction(1, 3), Fraction(-2, 7)])), [0, 1, 1, 3, -2, 7])
        self.assertEqual(cut(3, exactly(3, [Fraction(0), Fraction(0), Fraction(5, 99)])), [0, 1, 0, 1, 0, 1, 5, 99])
        self.assertEqual(cut(2, [[-1, 0, 0], [0, -1, 0], [1, 1, 0]]), [0, 1, 0, 1, 0, 1])
        self.assertEqual(cut(4, [[-1, 0, 0, 0, 0], [0, -1, 0, 0, 0], [0, 0, -1, 0, 0], [0, 0, 0, -1, 0],
                                 [1, 2, 3, 4, 0]]), [0, 1] + [0, 1] * 4)

    def test_one_dimension_left(self):
        self.assertEqual(cut(2, [[1, -1, 0], [-1, 1, 0]]), body(1, [(-100, -100), (100, 100)]))
        self.assertEqual(cut(2, [[0, 1, -100]]), body(1, [(-100, -100), (100, -100)]))
        self.assertEqual(cut(3, [[1, 1, 0, -200]]), body(1, [(-100, -100, -100), (-100, -100, 100)]))
        third = Fraction(1, 3)
        self.assertEqual(cut(3, exactly(3, [third, -third])), body(1, [(third, -third, -100), (third, -third, 100)]))
        self.assertEqual(cut(4, [[1, 1, 1, 0, -300]]), body(1, [(-100, -100, -100, -100), (-100, -100, -100, 100)]))
        self.assertEqual(cut(4, exactly(4, [third] * 3) + [[0, 0, 0, 2, 1]]),
                         body(1, [(third, third, third, -100), (third, third, third, Fraction(1, 2))]))

    def test_two_dimensions_left(self):
        self.assertEqual(cut(3, [[1, 0, 0, -100]]), body(2, [(-100, y, z) for y, z in product(FAR, repeat=2)]))
        corners = [(Fraction(-3, 2), y, z) for y, z in product(FAR, repeat=2)]
        self.assertEqual(cut(3, exactly(3, [Fraction(-3, 2)])), body(2, corners))
        self.assertEqual(cut(3, [[1, 1, 1, 0], [-1, -1, -1, 0], [1, 0, 0, 0], [0, 1, 0, 0]]),
                         body(2, [(-100, 0, 100), (0, -100, 100), (0, 0, 0)]))
        self.assertEqual(cut(4, [[1, 0, -1, 0, -200]]),
                         body(2, [(-100, y, 100, z) for y, z in product(FAR, repeat=2)]))

    def test_three_of_four_dimensions_left(self):
        corners = [(x, y, z, -100) for x, y, z in product(FAR, repeat=3)]
        self.assertEqual(cut(4, [[0, 0, 0, 1, -100]]), body(3, corners))
        corners = [(Fraction(7, 9), x, y, z) for x, y, z in product(FAR, repeat=3)]
        self.assertEqual(cut(4, exactly(4, [Fraction(7, 9)])), body(3, corners))

    def test_half_spaces_told_twice_and_by_multiples(self):
        self.assertEqual(cut(2, [[2, 3, 1]] * 7), SLANTED)
        self.assertEqual(cut(2, [[2, 3, 1], [4, 6, 2], [66, 99, 33]]), SLANTED)
        self.assertEqual(cut(2, [[66, 99, 33]]), SLANTED)
        self.assertEqual(cut(2, [[1, 0, 100], [50, 0, 5000], [0, -100, 10000]]), SQUARE)
        for n in (2, 3, 4):
            once = [k + 1 for k in range(n)] + [5]
            self.assertEqual(cut(n, [once, [9 * x for x in once]]), cut(n, [once]))

    def test_bound_that_only_touches(self):
        self.assertEqual(cut(2, [[1, 1, 200]]), SQUARE)
        self.assertEqual(cut(3, [[1, 1, 1, 300], [1, 1, 0, 200], [0, 0, 3, 300]]), cube(3))
        self.assertEqual(cut(4, [[1, -1, 1, -1, 400], [1, 1, 1, 0, 300], [0, 0, 1, 1, 200]]), cube(4))
        quarter = body(2, [(-100, -100), (-100, 0), (0, -100), (0, 0)],
                       [(-1, 0, 100), (0, -1, 100), (0, 1, 0), (1, 0, 0)])
        self.assertEqual(cut(2, [[1, 0, 0], [0, 1, 0], [1, 1, 0], [1, 2, 0], [3, 1, 0]]), quarter)
        eighth = [[1, 0, 0, 0], [0, 1, 0, 0], [0, 0, 1, 0]]
        self.assertEqual(cut(3, eighth + [[1, 1, 0, 0], [1, 1, 1, 0]]), cut(3, eighth))

    def test_half_spaces_that_have_the_whole_cube(self):
        self.assertEqual(cut(2, [[1, 0, 101], [1, 1, 201], [50, 0, 10000]]), SQUARE)
        self.assertEqual(cut(3, [[1, 1, 1, 301], [-1, 0, 0, 10000]]), cube(3))
        self.assertEqual(cut(4, [[1, 1, 1, 1, 401], [0, 0, 0, -1, 10000]]), cube(4))

    def test_more_than_n_bounds_through_one_corner(self):
        halves = [[1, 0, 1, 1], [-1, 0, 1, 1], [0, 1, 1, 1], [0, -1, 1, 1], [0, 0, -1, 0]]
        corners = [(-1, -1, 0), (-1, 1, 0), (0, 0, 1), (1, -1, 0), (1, 1, 0)]
        sides = [(-1, 0, 1, 1), (0, -1, 1, 1), (0, 0, -1, 0), (0, 1, 1, 1), (1, 0, 1, 1)]
        self.assertEqual(cut(3, halves), body(3, corners, sides))
        halves = [[1, 0, 0, 1, 0], [-1, 0, 0, 1, 0], [0, 1, 0, 1, 0], [0, -1, 0, 1, 0], [0, 0, 1, 1, 0],
                  [0, 0, -1, 1, 0]]
        corners = sorted([(x, y, z, -100) for x, y, z in product(FAR, repeat=3)] + [(0, 0, 0, 0)])
        sides = sorted([tuple(half) for half in halves] + [(0, 0, 0, -1, 100)])
        self.assertEqual(cut(4, halves), body(4, corners, sides))

    def test_seven_half_spaces(self):
        halves = [[1, 0, 50], [-1, 0, 50], [0, 1, 50], [0, -1, 50], [1, 1, 60], [-1, -1, 60], [1, -1, 60]]
        corners = [(-50, -10), (-50, 50), (-10, -50), (10, -50), (10, 50), (50, -10), (50, 10)]
        self.assertEqual(cut(2, halves), body(2, corners, sorted(map(tuple, halves))))
        halves = [[97, -93, 89, 83, 17], [-71, 97, -59, 61, 19], [53, 47, -43, 97, -11], [-41, 37, 31, -29, 7],
                  [23, -19, 17, -13, 101], [-91, -77, -33, 15, 4001], [9, 8, -7, -66, 3003]]
        self.assertEqual(cut(4, halves), reference.cut(4, halves))

    def test_furthest_numbers(self):
        corners = [(-100, -100), (-100, 100), (0, -100), (100, 0), (100, 100)]
        sides = [(-1, 0, 100), (0, -1, 100), (0, 1, 100), (1, -1, 100), (1, 0, 100)]
        self.assertEqual(cut(2, [[100, -100, 10000]]), body(2, corners, sides))
        corners = [(0, 100), (100, 0), (100, 100)]
        sides = [(-1, -1, -100), (0, 1, 100), (1, 0, 100)]
        self.assertEqual(cut(2, [[-100, -100, -10000]]), body(2, corners, sides))
        wide = [[100, 99, 98, -10000], [-99, 100, -97, 10000], [-100, -100, 99, 9999]]
        self.assertEqual(cut(3, wide), reference.cut(3, wide))
        wide = [[100, 99, 98, 97, -10000], [-100, 99, -98, 97, 10000], [1, -1, 100, -100, 9999]]
        self.assertEqual(cut(4, wide), reference.cut(4, wide))

    def test_order_is_by_the_fractions(self):
        halves = [[3, 0, 1], [-5, 0, -1], [1, 4, 1], [-1, -9, 2]]
        corners = [(Fraction(1, 5), Fraction(-11, 45)), (Fraction(1, 5), Fraction(1, 5)),
                   (Fraction(1, 3), Fraction(-7, 27)), (Fraction(1, 3), Fraction(1, 6))]
        sides = [(-5, 0, -1), (-1, -9, 2), (1, 4, 1), (3, 0, 1)]
        self.assertEqual(cut(2, halves), body(2, corners, sides))

    def test_answer_does_not_hang_on_the_order_told(self):
        halves = [[1, 2, 3, 40], [-3, 1, 0, 7], [0, 0, 1, 5], [2, -5, 1, 33], [1, 1, 1, 9]]
        answer = cut(3, halves)
        for k in range(5):
            self.assertEqual(cut(3, halves[k:] + halves[:k]), answer)
            self.assertEqual(cut(3, (halves[k:] + halves[:k])[::-1]), answer)

    def test_sides_without_a_common_divisor(self):
        self.assertEqual(cut(2, [[2, 4, 6]])[-3:], [1, 2, 3])
        self.assertEqual(cut(2, [[2, 4, 5]])[-3:], [2, 4, 5])
        self.assertEqual(cut(2, [[60, 0, 0]])[-3:], [1, 0, 0])
        self.assertEqual(cut(3, [[30, 30, -60, -90]])[-4:], [1, 1, -2, -3])
        self.assertEqual(cut(4, [[30, 30, 60, 60, 45]])[-5:], [2, 2, 4, 4, 3])


class Refusals(unittest.TestCase):
    def test_n(self):
        for n in (1, 0, -1, -2, 5, 6, 4294967295, -4294967295):
            self.assertEqual(cut(n, []), [-3])
            self.assertEqual(cut(n, [[1] * max(0, min(n + 1, 7))]), [-3])

    def test_count_of_half_spaces(self):
        for n in (2, 3, 4):
            self.assertEqual(cut(n, [[1] * (n + 1)] * 8), [-2])
            self.assertEqual(cut(n, [[1] * (n + 1)] * 9), [-2])
            self.assertEqual(cut(n, [[1] * (n + 1)] * 7), cut(n, [[1] * (n + 1)]))

    def test_count_of_numbers(self):
        for n in (2, 3, 4):
            for count in range(8):
                answer = cut(n, [[1] * (n + 1), [1] * count])
                self.assertEqual(answer, [-1] if count != n + 1 else cut(n, [[1] * (n + 1)]))

    def test_first_numbers_all_0(self):
        for n in (2, 3, 4):
            for last in (0, 1, -1, 10000, -10000):
                self.assertEqual(cut(n, [[0] * n + [last]]), [-1])
                self.assertEqual(cut(n, [[1] * (n + 1), [0] * n + [last]]), [-1])
            self.assertEqual(cut(n, [[0] * (n - 1) + [1, 100]]), cube(n))
            self.assertEqual(cut(n, [[-1] + [0] * (n - 1) + [100]]), cube(n))

    def test_numbers_out_of_range(self):
        for n in (2, 3, 4):
            for place in range(n):
                for wrong in (101, -101, 10000, 4294967295, -4294967295):
                    half = [1] * n + [10000]
                    half[place] = wrong
                    self.assertEqual(cut(n, [half]), [-1])
                    self.assertEqual(cut(n, [[1] * (n + 1)] * 6 + [half]), [-1])
                for right in (100, -100):
                    half = [0] * n + [10000]
                    half[place] = right
                    self.assertEqual(cut(n, [half]), cube(n))

    def test_last_number_out_of_range(self):
        for n in (2, 3, 4):
            for wrong in (10001, -10001, 4294967295, -4294967295):
                self.assertEqual(cut(n, [[1] * n + [wrong]]), [-1])
                self.assertEqual(cut(n, [[1] * (n + 1)] * 6 + [[1] * n + [wrong]]), [-1])
            self.assertEqual(cut(n, [[1] * n + [10000]]), cube(n))
            self.assertEqual(cut(n, [[1] * n + [-10000]]), NOTHING)

    def test_the_one_told_first(self):
        self.assertEqual(cut(5, [[]] * 9), [-3])
        self.assertEqual(cut(1, [[0, 0]]), [-3])
        self.assertEqual(cut(2, [[0, 0, 0]] * 8), [-2])
        self.assertEqual(cut(3, [[]] * 9), [-2])
        self.assertEqual(cut(3, [[1, 0, 0, -101], [0, 0, 0, 0]]), [-1])


class EachCallByItself(unittest.TestCase):
    def test_what_is_handed_in_is_not_changed(self):
        for n, halves in ((2, [[2, 3, 1], [4, 6, 2]]), (3, [[0, 0, 30, 60]]), (4, []), (4, [[1, 1, 1, 1, -401]]),
                          (2, [[0, 0, 1]])):
            before = [list(half) for half in halves]
            answer = cut(n, reference.frozen(halves))
            self.assertEqual(cut(n, halves), answer)
            self.assertEqual(halves, before)

    def test_a_second_call_answers_as_the_first(self):
        halves = [[2, 3, 1]]
        first = cut(2, halves)
        first.clear()
        cut(3, [[1, 2, 3, 4]])
        cut(9, [])
        cut(2, []).clear()
        self.assertEqual(cut(2, halves), SLANTED)
        self.assertEqual(cut(2, []), SQUARE)

    def test_only_lists_of_whole_numbers_are_answered(self):
        for answer in (cut(2, [[2, 3, 1]]), cut(2, []), cut(7, []), cut(2, [[1, 0, -101]])):
            self.assertIs(type(answer), list)
            for number in answer:
                self.assertIs(type(number), int)


if __name__ == "__main__":
    unittest.main()
