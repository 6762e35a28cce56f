"""What where, mixed and most refuse, and what they just don't."""

from tests.places import TRIANGLE


def with_one(n, way, above, below):
    """The place whose numbers are 0 but that one, told by these."""
    return [0, 1] * way + [above, below] + [0, 1] * (n - way - 1)


class PointRefusals:
    """Tests of what n and points earn of a call that is handed n, a place or a direction, and points.

    A test class of such a call tells it as `call`; as `between`, for each n, the numbers that it hands in besides; and
    as `at_the_first` what is answered then, if the first of the points' corners is 0 alone.
    """

    def asked(self, n, between, points):
        return type(self).call(n, between, points)

    def test_n(self):
        for n in (1, 0, -1, -2, 5, 6, 4294967295, -4294967295):
            count = max(0, min(n, 6))
            self.assertEqual(self.asked(n, self.between(count), [[0] * count]), [-3])
            self.assertEqual(self.asked(n, self.between(2), TRIANGLE), [-3])

    def test_count_of_points(self):
        for n in (2, 3, 4):
            self.assertEqual(self.asked(n, self.between(n), []), [-2])
            self.assertEqual(self.asked(n, self.between(n), [[k] * n for k in range(11)]), [-2])
            self.assertEqual(self.asked(n, self.between(n), [[k] * n for k in range(12)]), [-2])
            self.assertEqual(self.asked(n, self.between(n), [[0] * n] * 11), [-2])
            self.assertEqual(self.asked(n, self.between(n), [[k] * n for k in range(10)]), self.at_the_first)

    def test_points_that_are_not_as_told(self):
        for n in (2, 3, 4):
            for count in range(7):
                wanted = self.at_the_first if count == n else [-1]
                self.assertEqual(self.asked(n, self.between(n), [[1] * n, [0] * count]), wanted)
            for way in range(n):
                for wrong in (101, -101, 4294967295, -4294967295):
                    point = [0] * n
                    point[way] = wrong
                    self.assertEqual(self.asked(n, self.between(n), [point]), [-1])
                    self.assertEqual(self.asked(n, self.between(n), [[0] * n] * 9 + [point]), [-1])


class PlaceRefusals(PointRefusals):
    """Tests of a call that is handed n, a place and points.

    Away from points that lie in fewer than n dimensions it answers 0 alone.
    """

    def between(self, n):
        return [0, 1] * n

    def test_count_of_the_places_numbers(self):
        for n in (2, 3, 4):
            for count in range(13):
                wanted = self.at_the_first if count == 2 * n else [-4]
                self.assertEqual(self.asked(n, [1] * count, [[1] * n]), wanted)

    def test_above_out_of_range(self):
        for n in (2, 3, 4):
            for way in range(n):
                for below in (1, 1000):
                    for above in (100001, -100001, 4294967295, -4294967295):
                        place = with_one(n, way, above, below)
                        self.assertEqual(self.asked(n, place, [[0] * n]), [-4])
                    for above in (100000, -100000, 1000, 1001):
                        place = with_one(n, way, above, below)
                        self.assertEqual(self.asked(n, place, [[0] * n]), [0])

    def test_below_out_of_range(self):
        for n in (2, 3, 4):
            for way in range(n):
                for below in (0, -1, -2, -1000, 1001, 2000, 100000, 4294967295, -4294967295):
                    for above in (0, 5):
                        place = with_one(n, way, above, below)
                        self.assertEqual(self.asked(n, place, [[0] * n]), [-4])
                for below in (1, 2, 999, 1000):
                    place = with_one(n, way, 0, below)
                    self.assertEqual(self.asked(n, place, [[0] * n]), self.at_the_first)

    def test_the_one_told_first(self):
        self.assertEqual(self.asked(5, [], []), [-3])
        self.assertEqual(self.asked(1, [0, 0], [[101]] * 11), [-3])
        self.assertEqual(self.asked(2, [], []), [-2])
        self.assertEqual(self.asked(2, [0, 0, 0, 0], [[101, 0]] * 11), [-2])
        self.assertEqual(self.asked(3, [1], [[]] * 12), [-2])
        self.assertEqual(self.asked(2, [], [[101, 0]]), [-1])
        self.assertEqual(self.asked(3, [0, 0, 0, 0, 0, 0], [[1, 2], [0, 0, 0]]), [-1])
        self.assertEqual(self.asked(4, [100001, 1001] * 4, [[0, 0, 0, 0], [0, 0, 0, 101]]), [-1])
        self.assertEqual(self.asked(4, [100001, 1001] * 4, [[0, 0, 0, 0]]), [-4])
