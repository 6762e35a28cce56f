"""What where and mixed refuse, and what they just don't."""

from tests.places import TRIANGLE


def with_one(n, way, above, below):
    """The place whose numbers are 0 but that one, told by these."""
    return [0, 1] * way + [above, below] + [0, 1] * (n - way - 1)


class PlaceRefusals:
    """Tests of a call that is handed n, a place and points.

    A test class of such a call tells it as `call`, and as `at_the_first` what it answers at the first of several
    corners. Away from points that lie in fewer than n dimensions it answers 0 alone.
    """

    def asked(self, n, place, points):
        return type(self).call(n, place, points)

    def test_n(self):
        for n in (1, 0, -1, -2, 5, 6, 4294967295, -4294967295):
            count = max(0, min(n, 6))
            self.assertEqual(self.asked(n, [0, 1] * count, [[0] * count]), [-3])
            self.assertEqual(self.asked(n, [1, 1, 1, 1], TRIANGLE), [-3])

    def test_count_of_points(self):
        for n in (2, 3, 4):
            self.assertEqual(self.asked(n, [0, 1] * n, []), [-2])
            self.assertEqual(self.asked(n, [0, 1] * n, [[k] * n for k in range(11)]), [-2])
            self.assertEqual(self.asked(n, [0, 1] * n, [[k] * n for k in range(12)]), [-2])
            self.assertEqual(self.asked(n, [0, 1] * n, [[0] * n] * 11), [-2])
            self.assertEqual(self.asked(n, [0, 1] * n, [[k] * n for k in range(10)]), self.at_the_first)

    def test_points_that_are_not_as_told(self):
        for n in (2, 3, 4):
            for count in range(7):
                wanted = self.at_the_first if count == n else [-1]
                self.assertEqual(self.asked(n, [0, 1] * n, [[1] * n, [0] * count]), wanted)
            for way in range(n):
                for wrong in (101, -101, 4294967295, -4294967295):
                    point = [0] * n
                    point[way] = wrong
                    self.assertEqual(self.asked(n, [0, 1] * n, [point]), [-1])
                    self.assertEqual(self.asked(n, [0, 1] * n, [[0] * n] * 9 + [point]), [-1])

    def test_count_of_the_places_numbers(self):
        for n in (2, 3, 4):
            for count in range(13):
                wanted = self.at_the_first if count == 2 * n else [-4]
                self.assertEqual(self.asked(n, [1] * count, [[1] * n]), wanted)

    def test_above_out_of_range(self):
        for n in (2, 3, 4):
            for way in range(n):
                for below in (1, 1000):
                    for above in (100001, -100001, 4294967295, -4294967295):
                        place = with_one(n, way, above, below)
                        self.assertEqual(self.asked(n, place, [[0] * n]), [-4])
                    for above in (100000, -100000, 1000, 1001):
                        place = with_one(n, way, above, below)
                        self.assertEqual(self.asked(n, place, [[0] * n]), [0])

    def test_below_out_of_range(self):
        for n in (2, 3, 4):
            for way in range(n):
                for below in (0, -1, -2, -1000, 1001, 2000, 100000, 4294967295, -4294967295):
                    for above in (0, 5):
                        place = with_one(n, way, above, below)
                        self.assertEqual(self.asked(n, place, [[0] * n]), [-4])
                for below in (1, 2, 999, 1000):
                    place = with_one(n, way, 0, below)
                    self.assertEqual(self.asked(n, place, [[0] * n]), self.at_the_first)

    def test_the_one_told_first(self):
        self.assertEqual(self.asked(5, [], []), [-3])
        self.assertEqual(self.asked(1, [0, 0], [[101]] * 11), [-3])
        self.assertEqual(self.asked(2, [], []), [-2])
        self.assertEqual(self.asked(2, [0, 0, 0, 0], [[101, 0]] * 11), [-2])
        self.assertEqual(self.asked(3, [1], [[]] * 12), [-2])
        self.assertEqual(self.asked(2, [], [[101, 0]]), [-1])
        self.assertEqual(self.asked(3, [0, 0, 0, 0, 0, 0], [[1, 2], [0, 0, 0]]), [-1])
        self.assertEqual(self.asked(4, [100001, 1001] * 4, [[0, 0, 0, 0], [0, 0, 0, 101]]), [-1])
        self.assertEqual(self.asked(4, [100001, 1001] * 4, [[0, 0, 0, 0]]), [-4])
