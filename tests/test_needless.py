"""needless: which half spaces might as well be left out."""

import unittest
from itertools import permutations
from random import Random

from pointbodies.bodies import cut, needless
from tests import reference

PYRAMID = [[2, 3, 7, 5], [-1, 0, 0, 0], [0, -1, 0, 0], [0, 0, -1, 0]]
SIMPLEX = [[0, 0, 0, -1, 0], [0, 0, -1, 0, 0], [0, -1, 0, 0, 0], [-1, 0, 0, 0, 0], [2, 3, 5, 7, 11]]
SEVEN = [[1, 0, 50], [-1, 0, 50], [0, 1, 50], [0, -1, 50], [1, 1, 60], [-1, -1, 60], [1, -1, 60]]
WILD = [[97, -93, 89, 83, 17], [-71, 97, -59, 61, 19], [53, 47, -43, 97, -11], [-41, 37, 31, -29, 7],
        [23, -19, 17, -13, 101], [-91, -77, -33, 15, 4001], [9, 8, -7, -66, 3003]]


def along(n, way, sign, bound):
    """The half space of the points whose number that way, or that turned, isn't above the bound."""
    return [sign * (k == way) for k in range(n)] + [bound]


def below_0(n):
    return [along(n, way, 1, 0) for way in range(n)]


class Needless(unittest.TestCase):
    def answers(self, n, halves, *places):
        with self.subTest(n=n, halves=halves):
            self.assertEqual(needless(n, halves), [len(places), *places])


class Ordinary(Needless):
    def test_plane(self):
        self.answers(2, [[1, 0, 0], [0, 1, 0]])
        self.answers(2, [[2, 3, 1]])
        self.answers(2, [[1, 0, 0], [0, 1, 0], [1, 0, 5]], 2)
        self.answers(2, [[1, 1, 1], [1, 0, 0], [0, 1, 0]], 0)
        self.answers(2, [[1, 0, 0], [1, 1, 99], [0, 1, 0], [1, 0, 50]], 1, 3)
        self.answers(2, [[0, 1, 1], [0, -1, 0], [-6, -1, -3], [7, 0, 5]])
        self.answers(2, [[0, 1, 1], [3, 1, 9], [0, -1, 0], [-6, -1, -3], [-1, 0, 0], [7, 0, 5], [7, 0, 6]], 1, 4, 6)
        self.answers(2, [[1, 0, 101], [1, 1, 201], [0, -1, 150]], 0, 1, 2)

    def test_three_dimensions(self):
        self.answers(3, PYRAMID)
        self.answers(3, PYRAMID + [[1, 0, 0, 2]])
        self.answers(3, PYRAMID + [[1, 0, 0, 3]], 4)
        self.answers(3, [[1, 1, 1, 3]] + PYRAMID + [[0, 0, 1, 1], [0, 7, 0, 11]], 0, 5)
        self.answers(3, [[1, 1, 1, 3]] + PYRAMID + [[0, 0, 1, 1], [0, 7, 0, 12]], 0, 5, 6)
        self.answers(3, [[1, 1, 1, 301], [-1, 0, 0, 10000], [2, -3, 4, 901]], 0, 1, 2)
        self.answers(3, [[2, 3, 4, 899]])

    def test_four_dimensions(self):
        self.answers(4, SIMPLEX)
        self.answers(4, SIMPLEX + [[0, 0, 0, 1, 1]])
        self.answers(4, SIMPLEX + [[0, 0, 0, 1, 2]], 5)
        self.answers(4, [[1, 1, 1, 1, 6]] + SIMPLEX + [[1, 0, 0, 0, 5]], 0)
        self.answers(4, [[1, 1, 1, 1, 6]] + SIMPLEX + [[1, 0, 0, 0, 6]], 0, 6)
        self.answers(4, [[1, 1, 1, 1, 401], [-1, 2, -3, 4, 1001], [0, 0, 0, -1, 10000]], 0, 1, 2)
        self.answers(4, WILD)

    def test_against_clipping(self):
        random = Random(11)
        seen = {}
        for n, reach, bound, times in ((2, 1, 2, 40), (2, 3, 9, 40), (2, 100, 10000, 40), (3, 1, 1, 20), (3, 2, 3, 20),
                                       (3, 100, 3000, 10), (3, 100, 10000, 10), (4, 1, 1, 6), (4, 2, 60, 4),
                                       (4, 100, 3000, 3), (4, 100, 10000, 5)):
            for time in range(times):
                halves = []
                while len(halves) < 2 + time % 6:
                    half = [random.randint(-reach, reach) for k in range(n)] + [random.randint(-bound, bound)]
                    if any(half[:n]):
                        halves.append(half)
                with self.subTest(n=n, halves=halves):
                    answer = needless(n, halves)
                    self.assertEqual(answer, reference.needless(n, halves))
                    seen[n, "none" if answer[0] == 0 else "all" if answer[0] == len(halves) else "some"] = True
        for n in (2, 3, 4):
            self.assertIn((n, "none"), seen)
            self.assertIn((n, "some"), seen)


class Edges(Needless):
    def test_no_half_spaces(self):
        for n in (2, 3, 4):
            self.assertEqual(needless(n, []), [0])

    def test_half_spaces_that_have_the_whole_cube(self):
        for n in (2, 3, 4):
            whole = [[1] * n + [100 * n + 1], [-1] * n + [10000], along(n, 0, 1, 101), along(n, n - 1, -1, 10000)]
            for half in whole:
                self.answers(n, [half], 0)
                self.answers(n, below_0(n) + [half], n)
            self.answers(n, whole, 0, 1, 2, 3)

    def test_half_spaces_that_touch_the_cube(self):
        for n in (2, 3, 4):
            for count in range(1, n + 1):
                for sign in (1, -1):
                    front = [sign * (k < count) for k in range(n)]
                    self.answers(n, [front + [100 * count]], 0)
                    self.answers(n, [front + [100 * count - 1]])
                    self.answers(n, [front + [-100 * count]])
                    self.answers(n, [front + [-100 * count - 1]])
        self.answers(2, [[1, 2, 300], [1, 2, 299], [-3, 1, 400]], 0, 2)
        self.answers(3, [[1, 1, 1, 300], [1, 1, 0, 200], [0, 0, 3, 300], [1, 0, 1, 199]], 0, 1, 2)
        self.answers(4, [[1, -1, 1, -1, 400], [1, 1, 1, 0, 300], [0, 0, 1, 1, 200], [0, 0, 0, 1, 100]], 0, 1, 2, 3)

    def test_the_cubes_own_sides(self):
        for n in (2, 3, 4):
            for way in range(n):
                for sign in (1, -1):
                    self.answers(n, [along(n, way, sign, 100)], 0)
                    self.answers(n, [along(n, way, 100 * sign, 10000)], 0)
                    self.answers(n, [along(n, way, 100 * sign, 9999)])
                    self.answers(n, [along(n, way, sign, 100), along(n, way, sign, 99)], 0)
        self.answers(2, reference.cube(2), 0, 1, 2, 3)
        self.answers(3, reference.cube(3), 0, 1, 2, 3, 4, 5)
        self.answers(4, reference.cube(4)[:7], 0, 1, 2, 3, 4, 5, 6)

    def test_the_same_half_space_told_twice(self):
        self.answers(2, [[2, 3, 1], [2, 3, 1]], 0, 1)
        self.answers(2, [[2, 3, 1], [4, 6, 2]], 0, 1)
        self.answers(2, [[66, 99, 33], [1, 0, 0], [2, 3, 1], [0, 1, 9], [4, 6, 2]], 0, 2, 4)
        self.answers(2, [[2, 3, 1], [4, 6, 3]], 1)
        self.answers(2, [[2, 3, 1], [2, 3, 0]], 0)
        self.answers(2, [[2, 3, 1], [-2, -3, -1]])
        self.answers(2, [[30, 0, 0], [1, 0, 0]], 0, 1)
        for n in (2, 3, 4):
            once = [k + 1 for k in range(n)] + [5]
            self.answers(n, [once, [9 * number for number in once]], 0, 1)
            self.answers(n, [once] * 7, 0, 1, 2, 3, 4, 5, 6)
            self.answers(n, below_0(n) + [along(n, 0, 77, 0)], 0, n)

    def test_bounds_that_touch_what_the_others_leave(self):
        self.answers(2, below_0(2) + [[1, 1, 0]], 2)
        self.answers(2, [[1, 2, 0]] + below_0(2) + [[3, 1, 0], [1, 1, 0]], 0, 3, 4)
        self.answers(2, below_0(2) + [[1, -1, 0]], 0)
        self.answers(3, below_0(3) + [[1, 1, 0, 0]], 3)
        self.answers(3, below_0(3) + [[1, 1, 1, 0]], 3)
        self.answers(3, [[1, 1, 1, 0]] + below_0(3) + [[0, 5, 2, 0], [1, 0, 1, 1]], 0, 4, 5)
        self.answers(3, [[1, 1, 1, 0]] + below_0(3) + [[0, 5, 2, -1], [1, 0, 1, 0]], 0, 5)
        self.answers(4, below_0(4) + [[1, 1, 0, 0, 0], [1, 1, 1, 0, 0], [1, 2, 3, 4, 0]], 4, 5, 6)
        self.answers(4, below_0(4) + [[1, 1, 0, 0, -1], [1, 1, 1, 0, 0], [1, 2, 3, 4, 0]], 5, 6)
        self.answers(2, [[-1, 0, 0], [0, -1, 0], [3, 2, 1], [6, 0, 2], [0, 2, 1]], 3, 4)
        self.answers(2, [[-1, 0, 0], [0, -1, 0], [3, 2, 1], [7, 0, 2], [0, 2, 1]], 4)
        self.answers(3, PYRAMID + [[2, 0, 0, 5], [2, 3, 0, 5], [4, 3, 7, 10]], 4, 5, 6)
        self.answers(4, SIMPLEX + [[2, 0, 0, 0, 11], [0, 3, 5, 0, 11]], 5, 6)

    def test_more_than_n_bounds_through_one_corner(self):
        roof = [[1, 0, 1, 1], [-1, 0, 1, 1], [0, 1, 1, 1], [0, -1, 1, 1], [0, 0, -1, 0]]
        self.answers(3, roof)
        self.answers(3, roof + [[0, 0, 1, 1], [1, 1, 2, 2]], 5, 6)
        roof = [[1, 0, 0, 1, 0], [-1, 0, 0, 1, 0], [0, 1, 0, 1, 0], [0, -1, 0, 1, 0], [0, 0, 1, 1, 0],
                [0, 0, -1, 1, 0]]
        self.answers(4, roof)
        self.answers(4, roof + [[0, 0, 0, 1, 0]], 6)

    def test_nothing_left(self):
        self.answers(2, [[1, 0, -101]])
        self.answers(2, [[1, 0, -101], [0, 1, 5]], 1)
        self.answers(2, [[1, 0, -101], [-1, 0, -101]], 0, 1)
        self.answers(2, [[1, 0, -1], [-1, 0, -1]])
        self.answers(2, [[100, 0, 33], [-100, 0, -34], [0, 1, 0]], 2)
        self.answers(2, below_0(2) + [[-1, -1, -1]])
        self.answers(2, below_0(2) + [[-1, -1, -1], [1, 1, 0]], 0, 1, 3)
        self.answers(2, [[1, 0, -1], [-1, 0, -1], [0, 1, -1], [0, -1, -1]], 0, 1, 2, 3)
        self.answers(2, [[1, 0, -1], [0, 1, 0], [-1, 0, -1], [1, 0, -2]], 0, 1, 3)
        self.answers(3, [[1, 1, 1, -301]])
        self.answers(3, [[1, 0, 0, 0], [0, 1, 0, 0], [0, 0, 1, 0], [-1, -1, 0, -1]], 2)
        self.answers(3, below_0(3) + [[-1, -1, -1, -1]])
        self.answers(4, [[1, 1, 1, 1, -401], [1, 0, 0, 0, 0]], 1)
        self.answers(4, below_0(4) + [[-1, -2, -3, -4, -1]])
        self.answers(4, [[0, 0, 0, -1, -10000]] * 7, 0, 1, 2, 3, 4, 5, 6)

    def test_one_point_left(self):
        self.answers(2, [[1, 1, -200]])
        self.answers(2, [[1, 1, -200], [1, 0, -100]], 1)
        self.answers(2, [[1, 1, -200], [1, 0, -100], [0, 1, -100]], 0, 1, 2)
        self.answers(2, [[3, 0, 1], [-3, 0, -1], [0, 7, -2], [0, -7, 2]])
        self.answers(2, [[1, 0, 0], [-1, 0, 0], [0, 1, 0], [0, -1, 0], [1, 1, 0]], 0, 2, 4)
        self.answers(2, [[-1, 0, 0], [0, -1, 0], [1, 1, 0]])
        self.answers(3, [[1, -1, 1, -300], [0, -1, 0, -100], [0, 0, 1, 5]], 1, 2)
        self.answers(3, [[-1, 0, 0, 0], [0, -1, 0, 0], [0, 0, -1, 0], [1, 2, 3, 0], [1, 1, 1, 0]], 3, 4)
        self.answers(4, [[1, 1, 1, 1, -400]])
        self.answers(4, SIMPLEX[:4] + [[1, 2, 3, 4, 0], [1, 0, 0, 0, 0], [1, 1, 1, 0, 1]], 5, 6)

    def test_fewer_dimensions_left(self):
        self.answers(2, [[1, -1, 0], [-1, 1, 0]])
        self.answers(2, [[1, -1, 0], [-1, 1, 0], [1, 0, 100], [1, 1, 100]], 2)
        self.answers(2, [[1, -1, 0], [-1, 1, 0], [1, 0, 50], [0, 1, 50]], 2, 3)
        self.answers(2, [[1, -1, 0], [-1, 1, 0], [1, 0, 50], [0, 1, 49]], 2)
        self.answers(2, [[0, 1, -100], [0, 1, 7]], 1)
        self.answers(3, [[1, 1, 0, -200], [1, 0, 0, -100], [0, 0, 1, 3]], 1)
        self.answers(3, [[1, 0, 0, 5], [-1, 0, 0, -5], [1, 1, 0, 5], [0, 1, 0, 0], [0, 1, 1, 0]], 2, 3)
        self.answers(4, [[1, 0, -1, 0, -200], [1, 0, 0, 0, -100], [0, 0, -1, 0, -100], [0, 1, 0, 1, 0]], 0, 1, 2)
        self.answers(4, [[9, 0, 0, 0, 7], [-9, 0, 0, 0, -7], [9, 1, 1, 1, 307], [9, 1, 1, 1, 306]], 2)

    def test_seven_half_spaces(self):
        self.answers(2, SEVEN)
        self.answers(2, SEVEN[:6] + [[1, -1, 100]], 6)
        self.answers(2, [[1, 0, 50], [1, 1, 60], [-1, 0, 50], [0, 1, 50], [0, -1, 50], [-1, -1, 101], [1, -1, 100]],
                     5, 6)
        self.answers(3, PYRAMID[1:] + [[1, 1, 1, 9], [1, 1, 1, 8], [1, 1, 1, 7], [1, 1, 1, 6]], 3, 4, 5)

    def test_furthest_numbers(self):
        self.answers(2, [[100, -100, 10000]])
        self.answers(2, [[-100, -100, -10000]])
        self.answers(2, [[1, 0, -10000]])
        self.answers(2, [[1, 0, 10000]], 0)
        self.answers(2, [[1, 0, -10000], [1, 0, 10000]], 1)
        self.answers(2, [[100, 0, 10000], [0, -100, 10000], [100, 100, 10000], [100, 99, 10000]], 0, 1, 3)
        self.answers(2, [[100, 0, -10000], [100, 100, -10000], [100, -100, 10000]], 2)
        self.answers(3, [[100, 100, 100, -10000], [100, 100, 100, 10000], [99, 100, 100, 10000]], 1, 2)
        self.answers(4, [[100, 100, 100, 100, -10000], [-100, -100, -100, -100, 10000], [0, 0, 0, 100, 10000]], 2)
        wide = [[100, 99, 98, 97, -10000], [-100, 99, -98, 97, 10000], [1, -1, 100, -100, 9999], [1, 1, 1, 1, 401]]
        self.assertEqual(needless(4, wide), reference.needless(4, wide))

    def test_bounds_that_miss_a_corner_by_very_little(self):
        # The wedge's tip is at 99 over 9703 and 1 over 9703.
        wedge = [[97, 100, 1], [99, -98, 1], [-1, 0, 0]]
        self.answers(2, wedge)
        self.answers(2, wedge + [[98, 0, 1]], 3)
        self.answers(2, wedge + [[99, 0, 1]])
        self.answers(2, wedge + [[97, 99, 1]], 3)
        self.answers(2, wedge + [[98, 100, 1]], 0)
        self.answers(2, [[-100, 99, 0], [99, -98, 0], [1, 0, 0]], 2)
        self.answers(2, [[-100, 99, 0], [99, -98, 0], [100, 0, -1]])

    def test_left_out_by_its_place_not_by_its_order(self):
        halves = [[1, 0, 0], [0, 1, 0], [1, 1, 0], [1, 0, 50], [-1, 0, 7]]
        for order in permutations(range(5)):
            places = [place for place, k in enumerate(order) if k in (2, 3)]
            self.assertEqual(needless(2, [halves[k] for k in order]), [2, *places])

    def test_each_by_itself_leaves_what_all_leave(self):
        for n, halves in ((2, [[66, 99, 33], [1, 0, 0], [2, 3, 1], [0, 1, 9], [4, 6, 2]]), (2, SEVEN),
                          (3, PYRAMID + [[1, 0, 0, 3], [2, 0, 0, 5]]), (4, SIMPLEX + [[0, 0, 0, 1, 2]])):
            places = needless(n, halves)[1:]
            for k in range(len(halves)):
                self.assertEqual(cut(n, halves[:k] + halves[k + 1:]) == cut(n, halves), k in places)


class Refusals(unittest.TestCase):
    def test_n(self):
        for n in (1, 0, -1, -2, 5, 6, 4294967295, -4294967295):
            self.assertEqual(needless(n, []), [-3])
            self.assertEqual(needless(n, [[1] * max(0, min(n + 1, 7))]), [-3])

    def test_count_of_half_spaces(self):
        for n in (2, 3, 4):
            self.assertEqual(needless(n, [[1] * (n + 1)] * 8), [-2])
            self.assertEqual(needless(n, [[1] * (n + 1)] * 9), [-2])
            self.assertEqual(needless(n, [[1] * (n + 1)] * 7), [7, 0, 1, 2, 3, 4, 5, 6])

    def test_count_of_numbers(self):
        for n in (2, 3, 4):
            for count in range(8):
                right = count == n + 1
                self.assertEqual(needless(n, [[1] * count]), [0] if right else [-1])
                self.assertEqual(needless(n, [[1] * (n + 1), [1] * count]), [2, 0, 1] if right else [-1])

    def test_first_numbers_all_0(self):
        for n in (2, 3, 4):
            for last in (0, 1, -1, 10000, -10000):
                self.assertEqual(needless(n, [[0] * n + [last]]), [-1])
                self.assertEqual(needless(n, [[1] * (n + 1), [0] * n + [last]]), [-1])
            self.assertEqual(needless(n, [[0] * (n - 1) + [1, 0]]), [0])
            self.assertEqual(needless(n, [[-1] + [0] * (n - 1) + [0]]), [0])

    def test_numbers_out_of_range(self):
        for n in (2, 3, 4):
            for way in range(n):
                for wrong in (101, -101, 10000, 4294967295, -4294967295):
                    half = [1] * n + [0]
                    half[way] = wrong
                    self.assertEqual(needless(n, [half]), [-1])
                    self.assertEqual(needless(n, [[1] * (n + 1)] * 6 + [half]), [-1])
                for right in (100, -100):
                    self.assertEqual(needless(n, [along(n, way, right, 0)]), [0])

    def test_last_number_out_of_range(self):
        for n in (2, 3, 4):
            for wrong in (10001, -10001, 4294967295, -4294967295):
                self.assertEqual(needless(n, [[1] * n + [wrong]]), [-1])
                self.assertEqual(needless(n, [[1] * (n + 1)] * 6 + [[1] * n + [wrong]]), [-1])
            self.assertEqual(needless(n, [[1] * n + [10000]]), [1, 0])
            self.assertEqual(needless(n, [[1] * n + [-10000]]), [0])

    def test_the_one_told_first(self):
        self.assertEqual(needless(5, [[]] * 9), [-3])
        self.assertEqual(needless(1, [[0, 0]]), [-3])
        self.assertEqual(needless(2, [[0, 0, 0]] * 8), [-2])
        self.assertEqual(needless(3, [[]] * 9), [-2])
        self.assertEqual(needless(3, [[1, 0, 0, -101], [0, 0, 0, 0]]), [-1])


class EachCallByItself(unittest.TestCase):
    def test_what_is_handed_in_is_not_changed(self):
        for n, halves in ((2, [[2, 3, 1], [4, 6, 2]]), (3, [[0, 0, 30, 60]]), (4, []), (4, [[1, 1, 1, 1, -401]]),
                          (2, SEVEN), (2, [[0, 0, 1]])):
            before = [list(half) for half in halves]
            answer = needless(n, reference.frozen(halves))
            self.assertEqual(needless(n, halves), answer)
            self.assertEqual(halves, before)

    def test_a_second_call_answers_as_the_first(self):
        halves = [[1, 0, 0], [0, 1, 0], [1, 1, 0]]
        first = needless(2, halves)
        first.clear()
        needless(3, [[1, 2, 3, 4]]).append(5)
        needless(9, [])
        needless(2, []).clear()
        self.assertEqual(needless(2, halves), [1, 2])
        self.assertEqual(needless(2, []), [0])

    def test_only_lists_of_whole_numbers_are_answered(self):
        for answer in (needless(2, [[2, 3, 1]] * 2), needless(2, []), needless(7, []), needless(2, [[1, 0, -101]])):
            self.assertIs(type(answer), list)
            for number in answer:
                self.assertIs(type(number), int)


if __name__ == "__main__":
    unittest.main()
