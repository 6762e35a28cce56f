"""Points, and places among them, to try where, mixed and most on."""

from fractions import Fraction
from random import Random

TRIANGLE = [[0, 0], [4, 0], [0, 3]]
PYRAMID = [[0, 0, 0], [2, 0, 0], [0, 3, 0], [0, 0, 5]]
CROSS = [[sign * (k == way) for k in range(4)] for way in range(4) for sign in (1, -1)]
TEN = [[-5, 0], [-4, -3], [-4, 3], [-3, -4], [-3, 4], [3, -4], [3, 4], [4, -3], [4, 3], [5, 0]]


def told(*numbers):
    """The place whose numbers these are, each a whole number or a text like 2/3."""
    place = []
    for number in map(Fraction, numbers):
        place += [number.numerator, number.denominator]
    return place


def random_points(random, n, lie, reach):
    """1 to 10 points that lie in at most so many dimensions."""
    if lie == n:
        return [[random.randint(-reach, reach) for k in range(n)] for point in range(random.randint(1, 10))]
    ways = [[random.randint(-4, 4) for k in range(n)] for way in range(lie)]
    points = []
    for point in range(random.randint(1, 10)):
        steps = [random.randint(-2, 2) for way in ways]
        points.append([5 + sum(s * w[k] for s, w in zip(steps, ways)) for k in range(n)])
    return points


def random_place(random, n, points):
    """A place that is mixed of some of the points, made of them beyond them, or very near to such a place.

    What's above and what's below are left with what they have in common.
    """
    some = [random.choice(points) for k in range(random.randint(1, n + 1))]
    weights = [random.randint(-1 if random.random() < 0.2 else 0, 4) for point in some]
    weights[0] += max(0, 1 - sum(weights))
    below = sum(weights)
    place = []
    for k in range(n):
        place += [sum(weight * point[k] for weight, point in zip(weights, some)), below]
    if random.random() < 0.3:
        way = random.randrange(n)
        times = min(1000 // below, 99999 // max(1, abs(place[2 * way])))
        place[2 * way] = place[2 * way] * times + random.choice((-1, 1))
        place[2 * way + 1] = below * times
    return place


def tries(seed, times):
    """Many n, places and points: for each n and each count of dimensions so many times points, four places to each."""
    random = Random(seed)
    for n in (2, 3, 4):
        for lie, reach in [(lie, 4) for lie in range(n)] + [(n, 1), (n, 3), (n, 99)]:
            for time in range(times):
                points = random_points(random, n, lie, reach)
                for place in range(4):
                    yield n, random_place(random, n, points), points
