"""The calls: bodies between points. Rows stand for points and half spaces as told in pointbodies.rows."""

from pointbodies.rows import common_divisor, crossings, each_once, negated, product, rank

WRONG_DIMENSIONS = -3
WRONG_COUNT = -2
WRONG_NUMBERS = -1
NOT_REFUSED = 0

MOST_POINTS = 10
REACH = 100


def hull(n, points):
    """Answers the body between the points, or a refusal."""
    refused = refusal_of_points(n, points)
    if refused != NOT_REFUSED:
        return [refused]
    rows = each_once([point + [1] for point in points])
    flat = flattened(rows)
    sides = sides_between(flat)
    corners = [row for row, shadow in zip(rows, flat) if is_met(shadow, sides)]
    return told_body(n, corners, sides)


def refusal_of_points(n, points):
    """Answers the first refusal that n or the points earn."""
    if n < 2 or n > 4:
        return WRONG_DIMENSIONS
    if len(points) == 0 or len(points) > MOST_POINTS:
        return WRONG_COUNT
    for point in points:
        if len(point) != n or not within(point, REACH):
            return WRONG_NUMBERS
    return NOT_REFUSED


def within(numbers, reach):
    """Answers whether each number is from -reach to reach."""
    return all([-reach <= number and number <= reach for number in numbers])


def flattened(rows):
    """Answers the points with as many numbers as the dimensions they lie in.

    A number goes if the points lie in as many dimensions without it: what is
    a mixture of what stays the same. The number below, the last, never goes:
    it is 0 in no row, so some other one can go as long as there are too many.
    """
    wanted = rank(rows)
    flat = rows
    place = 0
    while len(flat[0]) > wanted:
        without = [row[:place] + row[place + 1:] for row in flat]
        if rank(without) == wanted:
            flat = without
        else:
            place += 1
    return flat


def sides_between(rows):
    """Answers the sides of the points' body; they lie in as many dimensions as they have numbers."""
    found = []
    for bound in crossings(rows, len(rows[0])):
        products = [product(bound, row) for row in rows]
        if max(products) <= 0:
            found.append(bound)
        elif min(products) >= 0:
            found.append(negated(bound))
    return each_once(found)


def is_met(row, others):
    """Answers whether enough of the others have product 0 with the row to leave no other such row.

    So a point of a body is a corner if its sides meet there in no other point.
    """
    return rank([other for other in others if product(row, other) == 0]) == len(row) - 1


def told_body(n, corners, sides):
    """Answers the numbers that tell a body; its corners are in order.

    The sides count only if the body lies in n dimensions.
    """
    dimensions = rank(corners) - 1
    answer = [dimensions, len(corners)]
    for corner in corners:
        answer.extend(told_point(corner))
    if dimensions == n:
        answer.append(len(sides))
        for side in each_once([side[:n] + [-side[n]] for side in sides]):
            answer.extend(side)
    return answer


def told_point(row):
    """Answers each number of the point as a fraction with nothing in common."""
    below = row[-1]
    told = []
    for above in row[:-1]:
        divisor = common_divisor([above, below])
        told.append(above // divisor)
        told.append(below // divisor)
    return told
