"""Bodies found in another way than the program's, straight from the document's words, slow and with fractions."""

from fractions import Fraction
from functools import lru_cache
from itertools import combinations, product
from math import gcd, lcm


class Frozen(list):
    """A list that fails when it is changed, be it for a while."""

    def refuse(self, *args, **kwargs):
        raise AssertionError("what is handed in was changed")

    append = clear = extend = insert = pop = remove = reverse = sort = refuse
    __setitem__ = __delitem__ = __iadd__ = __imul__ = refuse


def frozen(rows):
    return Frozen([Frozen(row) for row in rows])


def echelon(matrix):
    """The matrix in reduced form, and the columns of its pivots."""
    rows = [[Fraction(x) for x in row] for row in matrix]
    pivots = []
    for column in range(len(rows[0]) if rows else 0):
        found = next((r for r in range(len(pivots), len(rows)) if rows[r][column]), None)
        if found is None:
            continue
        top = len(pivots)
        rows[top], rows[found] = rows[found], rows[top]
        rows[top] = [x / rows[top][column] for x in rows[top]]
        for r in range(len(rows)):
            if r != top and rows[r][column]:
                rows[r] = [x - rows[r][column] * y for x, y in zip(rows[r], rows[top])]
        pivots.append(column)
    return rows, pivots


def dimensions(points):
    if not points:
        return -1
    return len(echelon([[x - y for x, y in zip(p, points[0])] for p in points[1:]])[1])


def parts(place, points):
    """The parts of which the place is mixed of points none of which is made of the others; None if there are none."""
    count = len(points)
    matrix = [[p[k] for p in points] + [place[k]] for k in range(len(place))] + [[1] * (count + 1)]
    rows, pivots = echelon(matrix)
    if pivots != list(range(count)):
        return None
    return [rows[k][count] for k in range(count)]


def is_mixture(place, points):
    """A mixture is one of at most n + 1 points that go off in directions of which none is made of the others."""
    for count in range(1, len(place) + 2):
        for some in combinations(points, count):
            found = parts(place, some)
            if found is not None and min(found) >= 0:
                return True
    return False


def without_mixtures(points):
    return list(kept_corners(tuple(sorted(set(map(tuple, points))))))


@lru_cache(maxsize=1)
def kept_corners(once):
    """Kept for the points asked for last, since it is slow and many places are tried on the same points."""
    return [p for p in once if not is_mixture(p, [q for q in once if q != p])]


def whole(row):
    """The row as whole numbers without a common divisor."""
    below = lcm(*[Fraction(x).denominator for x in row])
    above = [int(x * below) for x in row]
    return tuple(x // gcd(*above) for x in above)


def sides(n, points):
    found = set()
    for some in combinations(points, n):
        rows, pivots = echelon([[x - y for x, y in zip(p, some[0])] for p in some[1:]])
        if len(pivots) < n - 1:
            continue
        free = next(k for k in range(n) if k not in pivots)
        normal = [Fraction(0)] * n
        normal[free] = Fraction(1)
        for row, column in zip(rows, pivots):
            normal[column] = -row[free]
        for a in (normal, [-x for x in normal]):
            b = sum(x * y for x, y in zip(a, some[0]))
            if all(sum(x * y for x, y in zip(a, p)) <= b for p in points):
                found.add(whole(a + [b]))
    return sorted(found)


def body(lie, corners, found=None):
    """The answer that tells a body by its dimensions, its corners and, if it has them, its sides, all in order."""
    answer = [lie, len(corners)]
    for corner in corners:
        for x in corner:
            answer += [Fraction(x).numerator, Fraction(x).denominator]
    if found is not None:
        answer.append(len(found))
        for side in found:
            answer += side
    return answer


def hull(n, points):
    corners = without_mixtures(points)
    lie = dimensions(corners)
    return body(lie, corners, sides(n, corners) if lie == n else None)


def fractions(place):
    """The point that a place's numbers, above and below in turn, tell."""
    return tuple(Fraction(above, below) for above, below in zip(place[::2], place[1::2]))


def where(n, place, points):
    spot = fractions(place)
    once = sorted(set(map(tuple, points)))
    if not is_mixture(spot, once):
        return [0]
    if dimensions(once) < n or any(above_bound(side, spot) == 0 for side in sides(n, once)):
        return [1]
    return [2]


def mixtures(spot, corners, count):
    """The numbers of each so many corners of which the spot is mixed, and its parts of them."""
    found = []
    for numbers in combinations(range(len(corners)), count):
        of_each = parts(spot, [corners[number] for number in numbers])
        if of_each is not None and min(of_each) >= 0:
            found.append((numbers, of_each))
    return found


def mixed(n, place, points):
    spot = fractions(place)
    corners = without_mixtures(points)
    for count in range(1, n + 2):
        found = mixtures(spot, corners, count)
        if found:
            answer = [1, count]
            for number, part in zip(*min(found)):
                answer += [number, part.numerator, part.denominator]
            return answer
    beyond = [side for side in (sides(n, corners) if dimensions(corners) == n else []) if above_bound(side, spot) > 0]
    return [0, *min(beyond, default=())]


def most(n, direction, points):
    products = [sum(a * x for a, x in zip(direction, corner)) for corner in without_mixtures(points)]
    numbers = [number for number, reached in enumerate(products) if all(reached >= other for other in products)]
    above = Fraction(products[numbers[0]])
    return [len(numbers), above.numerator, above.denominator, *numbers]


def above_bound(half, point):
    return sum(a * x for a, x in zip(half, point)) - half[-1]


def clipped(points, half):
    """Points between which lies what the half space leaves of what's between these points."""
    kept = [p for p in points if above_bound(half, p) <= 0]
    for p in points:
        for q in points:
            down, up = above_bound(half, p), above_bound(half, q)
            if down < 0 < up:
                kept.append(tuple(x + (y - x) * Fraction(-down, up - down) for x, y in zip(p, q)))
    return sorted(set(kept))


def is_corner(point, halves):
    """Whether the bounds on which the point lies go through no other point."""
    normals = [half[:-1] for half in halves if above_bound(half, point) == 0]
    return len(echelon(normals)[1]) == len(point)


def cube(n):
    return [[sign * (k == place) for k in range(n)] + [100] for place in range(n) for sign in (1, -1)]


def left(n, halves):
    """The corners of the cube, clipped by one half space after the other."""
    points = [tuple(map(Fraction, p)) for p in product((-100, 100), repeat=n)]
    for k, half in enumerate(halves):
        points = [p for p in clipped(points, half) if is_corner(p, cube(n) + halves[:k + 1])]
    return sorted(points)


def cut(n, halves):
    points = left(n, halves)
    lie = dimensions(points)
    if lie < n:
        return body(lie, points)
    if len(points) <= 14 - n:
        return body(lie, points, sides(n, points))
    bounds = [half for half in cube(n) + halves
              if dimensions([p for p in points if above_bound(half, p) == 0]) == n - 1]
    return body(lie, points, sorted(set(map(whole, bounds))))


def needless(n, halves):
    """Bodies are the same if their corners are."""
    all_leave = left(n, halves)
    places = [k for k in range(len(halves)) if left(n, halves[:k] + halves[k + 1:]) == all_leave]
    return [len(places), *places]
