"""Bodies found in another way than the program's, straight from the document's words, slow and with fractions."""

from fractions import Fraction
from itertools import combinations
from math import gcd, lcm


class Frozen(list):
    """A list that fails when it is changed, be it for a while."""

    def refuse(self, *args, **kwargs):
        raise AssertionError("what is handed in was changed")

    append = clear = extend = insert = pop = remove = reverse = sort = refuse
    __setitem__ = __delitem__ = __iadd__ = __imul__ = refuse


def frozen(rows):
    return Frozen([Frozen(row) for row in rows])


def echelon(matrix):
    """The matrix in reduced form, and the columns of its pivots."""
    rows = [[Fraction(x) for x in row] for row in matrix]
    pivots = []
    for column in range(len(rows[0]) if rows else 0):
        found = next((r for r in range(len(pivots), len(rows)) if rows[r][column]), None)
        if found is None:
            continue
        top = len(pivots)
        rows[top], rows[found] = rows[found], rows[top]
        rows[top] = [x / rows[top][column] for x in rows[top]]
        for r in range(len(rows)):
            if r != top and rows[r][column]:
                rows[r] = [x - rows[r][column] * y for x, y in zip(rows[r], rows[top])]
        pivots.append(column)
    return rows, pivots


def dimensions(points):
    if not points:
        return -1
    return len(echelon([[x - y for x, y in zip(p, points[0])] for p in points[1:]])[1])


def parts(place, points):
    """The parts of which the place is mixed of points none of which is made of the others; None if there are none."""
    count = len(points)
    matrix = [[p[k] for p in points] + [place[k]] for k in range(len(place))] + [[1] * (count + 1)]
    rows, pivots = echelon(matrix)
    if pivots != list(range(count)):
        return None
    return [rows[k][count] for k in range(count)]


def is_mixture(place, points):
    """A mixture is one of at most n + 1 points that go off in directions of which none is made of the others."""
    for count in range(1, len(place) + 2):
        for some in combinations(points, count):
            found = parts(place, some)
            if found is not None and min(found) >= 0:
                return True
    return False


def without_mixtures(points):
    once = sorted(set(map(tuple, points)))
    return [p for p in once if not is_mixture(p, [q for q in once if q != p])]


def whole(row):
    """The row as whole numbers without a common divisor."""
    below = lcm(*[Fraction(x).denominator for x in row])
    above = [int(x * below) for x in row]
    return tuple(x // gcd(*above) for x in above)


def sides(n, points):
    found = set()
    for some in combinations(points, n):
        rows, pivots = echelon([[x - y for x, y in zip(p, some[0])] for p in some[1:]])
        if len(pivots) < n - 1:
            continue
        free = next(k for k in range(n) if k not in pivots)
        normal = [Fraction(0)] * n
        normal[free] = Fraction(1)
        for row, column in zip(rows, pivots):
            normal[column] = -row[free]
        for a in (normal, [-x for x in normal]):
            b = sum(x * y for x, y in zip(a, some[0]))
            if all(sum(x * y for x, y in zip(a, p)) <= b for p in points):
                found.add(whole(a + [b]))
    return sorted(found)


def told(n, corners):
    """The body between the corners, which are in order, number by number."""
    lie = dimensions(corners)
    answer = [lie, len(corners)]
    for corner in corners:
        for x in corner:
            answer += [Fraction(x).numerator, Fraction(x).denominator]
    if lie == n:
        found = sides(n, corners)
        answer.append(len(found))
        for side in found:
            answer += side
    return answer


def hull(n, points):
    return told(n, without_mixtures(points))
