"""All six calls together: what the document says of the whole program and of every call."""

import inspect
import unittest
from copy import deepcopy
from fractions import Fraction
from itertools import permutations, product
from random import Random

from pointbodies import bodies
from tests import reference
from tests.places import PYRAMID, TRIANGLE, random_place, random_points, told, tries

ARGUMENTS = {"hull": ["n", "points"], "cut": ["n", "halves"], "where": ["n", "place", "points"],
             "mixed": ["n", "place", "points"], "most": ["n", "direction", "points"], "needless": ["n", "halves"]}

CORNER = [[-1, 0, 0], [0, -1, 0], [3, 2, 1]]

IN_TURN = [
    ("hull", (2, TRIANGLE), [2, 3, 0, 1, 0, 1, 0, 1, 3, 1, 4, 1, 0, 1, 3, -1, 0, 0, 0, -1, 0, 3, 4, 12]),
    ("cut", (2, CORNER), [2, 3, 0, 1, 0, 1, 0, 1, 1, 2, 1, 3, 0, 1, 3, -1, 0, 0, 0, -1, 0, 3, 2, 1]),
    ("where", (2, [1, 2, 2, 6], TRIANGLE), [2]),
    ("mixed", (2, [1, 2, 2, 6], TRIANGLE), [1, 3, 0, 55, 72, 1, 1, 9, 2, 1, 8]),
    ("most", (2, [3, 4], TRIANGLE), [2, 12, 1, 1, 2]),
    ("needless", (2, CORNER + [[1, 1, 1]]), [1, 3]),
]

MORE = [
    ("hull", (3, PYRAMID[:3]), [2, 3] + told(0, 0, 0) + told(0, 3, 0) + told(2, 0, 0)),
    ("hull", (2, [[0, 101]]), [-1]),
    ("hull", (2, []), [-2]),
    ("cut", (2, [[1, 0, -101]]), [-1, 0]),
    ("cut", (2, [[0, 0, 1]]), [-1]),
    ("cut", (4, [[1, 1, 1, 1, -400]]), [0, 1] + [-100, 1] * 4),
    ("where", (3, told(1, 1, 1), PYRAMID), [0]),
    ("where", (2, told(2, "3/2"), TRIANGLE), [1]),
    ("where", (2, [1, 0, 1, 1], TRIANGLE), [-4]),
    ("mixed", (3, told(1, 1, 1), PYRAMID), [0, 15, 10, 6, 30]),
    ("mixed", (3, told(1, 1, 1), PYRAMID[:3]), [0]),
    ("mixed", (2, [], TRIANGLE), [-4]),
    ("most", (3, [-1, -1, 0], [[1, 2, 3], [1, 2, 4]]), [2, -3, 1, 0, 1]),
    ("most", (2, [101, 0], TRIANGLE), [-4]),
    ("needless", (3, [[2, 0, 0, 1], [4, 0, 0, 2]]), [2, 0, 1]),
    ("needless", (2, []), [0]),
    ("needless", (5, []), [-3]),
]


def called(name, handed):
    return getattr(bodies, name)(*handed)


def frozen(handed):
    """The same arguments as lists that can't be changed."""
    kept = []
    for value in handed:
        if isinstance(value, list):
            rows = bool(value) and isinstance(value[0], list)
            value = reference.frozen(value) if rows else reference.Frozen(value)
        kept.append(value)
    return kept


def told_body(n, answer):
    """The corners and the sides of a body that is told."""
    count = answer[1]
    corners = [reference.fractions(answer[2 + 2 * n * k:2 + 2 * n * (k + 1)]) for k in range(count)]
    rest = answer[2 + 2 * n * count:]
    sides = [rest[k:k + n + 1] for k in range(1, len(rest), n + 1)]
    return corners, sides


def random_halves(random, n, reach, bound, count):
    halves = []
    while len(halves) < count:
        half = [random.randint(-reach, reach) for k in range(n)] + [random.randint(-bound, bound)]
        if any(half[:n]):
            halves.append(half)
    return halves


class Interface(unittest.TestCase):
    def test_names_and_arguments(self):
        for name, arguments in ARGUMENTS.items():
            told_so = inspect.signature(getattr(bodies, name)).parameters
            self.assertEqual(list(told_so), arguments)
            for parameter in told_so.values():
                self.assertIs(parameter.default, inspect.Parameter.empty)

    def test_by_name(self):
        for name, handed, answer in IN_TURN + MORE:
            self.assertEqual(getattr(bodies, name)(**dict(zip(ARGUMENTS[name], handed))), answer)

    def test_answers_are_lists_of_whole_numbers(self):
        for name, handed, answer in IN_TURN + MORE:
            got = called(name, handed)
            self.assertIs(type(got), list)
            self.assertEqual({type(number) for number in got}, {int})


class InTurn(unittest.TestCase):
    def test_in_every_order(self):
        before = deepcopy(IN_TURN)
        for order in permutations(IN_TURN):
            for name, handed, answer in order:
                self.assertEqual(called(name, handed), answer)
        self.assertEqual(IN_TURN, before)

    def test_each_behind_each(self):
        before = deepcopy((IN_TURN, MORE))
        for first, second in product(IN_TURN + MORE, repeat=2):
            called(*first[:2]).clear()
            got = called(*second[:2])
            self.assertEqual(got, second[2])
            got.append(77)
            self.assertEqual(called(*second[:2]), second[2])
        self.assertEqual((IN_TURN, MORE), before)

    def test_what_is_handed_in_is_not_changed_for_a_while_either(self):
        for name, handed, answer in IN_TURN + MORE:
            kept = frozen(handed)
            self.assertEqual(called(name, kept), answer)
            self.assertEqual(kept, list(handed))
            self.assertEqual(called(name, kept), answer)

    def test_the_same_lists_for_several_calls(self):
        points = reference.frozen(PYRAMID)
        place = reference.Frozen(told(1, "3/2", 0))
        direction = reference.Frozen([15, 10, 6])
        halves = reference.frozen([[-1, 0, 0, 0], [0, -1, 0, 0], [0, 0, -1, 0], [15, 10, 6, 30]])
        for time in range(3):
            self.assertEqual(bodies.hull(3, points), bodies.cut(3, halves))
            self.assertEqual(bodies.where(3, place, points), [1])
            self.assertEqual(bodies.mixed(3, place, points), [1, 2, 2, 1, 2, 3, 1, 2])
            self.assertEqual(bodies.most(3, direction, points), [3, 30, 1, 1, 2, 3])
            self.assertEqual(bodies.needless(3, halves), [0])


class WhatItStandsFor(unittest.TestCase):
    def test_between_is_what_all_sides_have(self):
        seen = {}
        for n, place, points in tries(12, 12):
            answer = bodies.hull(n, points)
            if answer[0] == n:
                corners, sides = told_body(n, answer)
                above = max(reference.above_bound(side, reference.fractions(place)) for side in sides)
                wanted = 0 if above > 0 else 1 if above == 0 else 2
                with self.subTest(n=n, place=place, points=points):
                    self.assertEqual(bodies.where(n, place, points), [wanted])
                seen[n, wanted] = True
        self.assertEqual(len(seen), 9)

    def test_mixed_just_if_between_of_corners_alone(self):
        for n, place, points in tries(13, 12):
            corners = told_body(n, bodies.hull(n, points))[0]
            answer = bodies.mixed(n, place, points)
            with self.subTest(n=n, place=place, points=points):
                self.assertEqual(answer[0] == 1, bodies.where(n, place, points) != [0])
                if answer[0] == 1:
                    parts = [Fraction(above, below) for above, below in zip(answer[3::3], answer[4::3])]
                    of = [corners[number] for number in answer[2::3]]
                    made = [sum(part * corner[k] for part, corner in zip(parts, of)) for k in range(n)]
                    self.assertEqual(made, list(reference.fractions(place)))
                    self.assertEqual(sum(parts), 1)
                    self.assertGreater(min(parts), 0)

    def test_what_half_spaces_leave_is_between_the_corners_told(self):
        random = Random(14)
        seen = {True: 0, False: 0}
        for n, times in ((2, 60), (3, 25), (4, 6)):
            for time in range(times):
                halves = random_halves(random, n, 2, 50, random.randint(n, 7))
                if time % 2 == 0:
                    halves = [half[:n] + [abs(half[n])] for half in halves]
                corners = told_body(n, bodies.cut(n, halves))[0]
                if len(corners) > 12:
                    continue
                for far in (0, 10, 60, 100):
                    place = [Fraction(random.randint(-far * 6, far * 6), 6) for k in range(n)]
                    in_all = all(reference.above_bound(half, place) <= 0 for half in halves)
                    with self.subTest(n=n, halves=halves, place=place):
                        self.assertEqual(reference.is_mixture(place, corners), in_all)
                    seen[in_all] += 1
        self.assertGreater(min(seen.values()), 20)

    def test_sides_as_half_spaces_leave_the_body_and_none_is_needless(self):
        random = Random(15)
        tried = {2: 0, 3: 0, 4: 0}
        for time in range(300):
            n = 2 + time % 3
            points = random_points(random, n, n, 3)[:n + 2]
            answer = bodies.hull(n, points)
            sides = told_body(n, answer)[1]
            if answer[0] == n and len(sides) <= 7 and max(abs(a) for side in sides for a in side[:n]) <= 100:
                with self.subTest(n=n, points=points):
                    self.assertEqual(bodies.cut(n, sides), answer)
                    self.assertEqual(bodies.needless(n, sides), [0])
                tried[n] += 1
        self.assertGreater(min(tried.values()), 10)

    def test_needless_ones_left_out_one_after_another_leave_the_same(self):
        random = Random(16)
        for time in range(45):
            n = 2 + time % 3
            halves = random_halves(random, n, 2, 9, 7)
            answer = bodies.cut(n, halves)
            with self.subTest(n=n, halves=halves):
                found = bodies.needless(n, halves)
                while found[0] > 0:
                    halves = halves[:found[1]] + halves[found[1] + 1:]
                    self.assertEqual(bodies.cut(n, halves), answer)
                    found = bodies.needless(n, halves)
                if answer[0] == n:
                    sides = told_body(n, answer)[1]
                    for half in halves:
                        self.assertIn(list(reference.whole(half)), sides)

    def test_no_place_between_goes_further_than_most(self):
        random = Random(17)
        for time in range(60):
            n = 2 + time % 3
            points = random_points(random, n, random.randint(0, n), 9)
            direction = [random.randint(-9, 9) for k in range(n)]
            corners = told_body(n, bodies.hull(n, points))[0]
            answer = bodies.most(n, direction, points)
            reached = [sum(a * x for a, x in zip(direction, corner)) for corner in corners]
            furthest = Fraction(answer[1], answer[2])
            with self.subTest(n=n, direction=direction, points=points):
                self.assertEqual([number for number, far in enumerate(reached) if far == furthest], answer[3:])
                self.assertEqual(max(reached), furthest)
                place = random_place(random, n, points)
                if bodies.where(n, place, points) != [0]:
                    far = sum(a * x for a, x in zip(direction, reference.fractions(place)))
                    self.assertLessEqual(far, furthest)

    def test_no_answer_but_a_refusal_and_an_empty_body_begins_below_0(self):
        random = Random(18)
        for time in range(60):
            n = 2 + time % 3
            points = random_points(random, n, n, 100)
            place = random_place(random, n, points)
            direction = [random.randint(-100, 100) for k in range(n)]
            halves = random_halves(random, n, 100, 10000, random.randint(0, 7))
            self.assertGreaterEqual(bodies.hull(n, points)[0], 0)
            self.assertIn(bodies.where(n, place, points), ([0], [1], [2]))
            self.assertIn(bodies.mixed(n, place, points)[0], (0, 1))
            self.assertGreaterEqual(bodies.most(n, direction, points)[0], 1)
            self.assertGreaterEqual(bodies.needless(n, halves)[0], 0)
            body = bodies.cut(n, halves)
            self.assertTrue(body[0] >= 0 or body == [-1, 0])


if __name__ == "__main__":
    unittest.main()
