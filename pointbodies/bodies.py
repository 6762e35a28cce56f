"""The calls: bodies between points, bodies that half spaces leave, places and directions among points.

Rows stand for points and half spaces as told in pointbodies.rows.
"""

from pointbodies.rows import choices, common_multiple, crossings, each_once, negated, product
from pointbodies.rows import rank, reduced, relations, unit_row

WRONG_PLACE = -4
WRONG_DIRECTION = -4
WRONG_DIMENSIONS = -3
WRONG_COUNT = -2
WRONG_NUMBERS = -1
NOT_REFUSED = 0

MOST_POINTS = 10
MOST_HALVES = 7
REACH = 100
BOUND_REACH = 10000
MOST_ABOVE = 100000
MOST_BELOW = 1000

NOT_BETWEEN = 0
BETWEEN = 1
INSIDE = 2


def hull(n, points):
    """Answers the body between the points, or a refusal."""
    refused = refusal_of_points(n, points)
    if refused != NOT_REFUSED:
        return [refused]
    rows = rows_of_points(points)
    flat = flattened(rows)
    sides = sides_between(flat)
    return told_body(n, corners_between(rows, flat, sides), sides)


def cut(n, halves):
    """Answers the body that the half spaces leave of the cube, or a refusal."""
    refused = refusal_of_halves(n, halves)
    if refused != NOT_REFUSED:
        return [refused]
    rows = each_once(cube(n) + rows_of_halves(n, halves))
    corners = corners_left(rows)
    sides = [row for row in rows if is_met(row, corners)]
    return told_body(n, in_order(corners), sides)


def where(n, place, points):
    """Answers how the place lies to what's between the points, or a refusal."""
    refused = refusal_of_place(n, place, points)
    if refused != NOT_REFUSED:
        return [refused]
    return [standing(n, row_of_place(place), rows_of_points(points))]


def mixed(n, place, points):
    """Answers of which fewest corners the place is mixed, or beyond which side it lies, or a refusal."""
    refused = refusal_of_place(n, place, points)
    if refused != NOT_REFUSED:
        return [refused]
    spot = row_of_place(place)
    rows = rows_of_points(points)
    flat = flattened(rows)
    sides = sides_between(flat)
    mixture = fewest_mixture(spot, corners_between(rows, flat, sides))
    if len(mixture) > 0:
        return [BETWEEN] + mixture
    if rank(rows) <= n:
        return [NOT_BETWEEN]
    beyond = [side for side in sides if product(side, spot) > 0]
    return [NOT_BETWEEN] + in_told_order(n, beyond)[0]


def most(n, direction, points):
    """Answers at which corners the direction times the point is most, and that most, or a refusal."""
    refused = refusal_of_direction(n, direction, points)
    if refused != NOT_REFUSED:
        return [refused]
    rows = rows_of_points(points)
    flat = flattened(rows)
    corners = corners_between(rows, flat, sides_between(flat))
    return told_furthest([product(direction, corner[:n]) for corner in corners])


def needless(n, halves):
    """Answers which of the half spaces are needless, or a refusal."""
    refused = refusal_of_halves(n, halves)
    if refused != NOT_REFUSED:
        return [refused]
    rows = rows_of_halves(n, halves)
    places = [place for place in range(len(rows)) if is_needless(n, rows, place)]
    return [len(places)] + places


def refusal_of_points(n, points):
    """Answers the first refusal that n or the points earn."""
    if n < 2 or n > 4:
        return WRONG_DIMENSIONS
    if len(points) == 0 or len(points) > MOST_POINTS:
        return WRONG_COUNT
    for point in points:
        if not is_point(n, point):
            return WRONG_NUMBERS
    return NOT_REFUSED


def is_point(n, numbers):
    """Answers whether the numbers tell a point, or a direction, which is told alike."""
    return len(numbers) == n and within(numbers, REACH)


def refusal_of_place(n, place, points):
    """Answers the first refusal that n, the points or the place earn."""
    refused = refusal_of_points(n, points)
    if refused == NOT_REFUSED and not is_place(n, place):
        return WRONG_PLACE
    return refused


def is_place(n, numbers):
    """Answers whether the numbers tell a place; what's above and below may have a common divisor."""
    if len(numbers) != 2 * n or not within(numbers[::2], MOST_ABOVE):
        return False
    return all([1 <= below and below <= MOST_BELOW for below in numbers[1::2]])


def refusal_of_direction(n, direction, points):
    """Answers the first refusal that n, the points or the direction earn."""
    refused = refusal_of_points(n, points)
    if refused == NOT_REFUSED and not is_point(n, direction):
        return WRONG_DIRECTION
    return refused


def refusal_of_halves(n, halves):
    """Answers the first refusal that n or the half spaces earn."""
    if n < 2 or n > 4:
        return WRONG_DIMENSIONS
    if len(halves) > MOST_HALVES:
        return WRONG_COUNT
    for half in halves:
        if not is_half(n, half):
            return WRONG_NUMBERS
    return NOT_REFUSED


def is_half(n, numbers):
    """Answers whether the numbers tell a half space."""
    if len(numbers) != n + 1:
        return False
    front = numbers[:n]
    if not within(front, REACH) or not within(numbers[n:], BOUND_REACH):
        return False
    return any([number != 0 for number in front])


def within(numbers, reach):
    """Answers whether each number is from -reach to reach."""
    return all([-reach <= number and number <= reach for number in numbers])


def rows_of_points(points):
    """Answers the points' rows in order, each one time."""
    return each_once([point + [1] for point in points])


def rows_of_halves(n, halves):
    """Answers the half spaces' rows, in the order told, so that the same half space has the same row."""
    return [reduced(half[:n] + [-half[n]]) for half in halves]


def row_of_place(numbers):
    """Answers the row of the place that the numbers tell: the spot."""
    shared = common_multiple(numbers[1::2])
    return [above * (shared // below) for above, below in zip(numbers[::2], numbers[1::2])] + [shared]


def standing(n, spot, rows):
    """Answers how the spot lies to what's between the points.

    Points in fewer than n dimensions have no sides, but flattened they do: a
    spot that lies in the same dimensions is between them if it is in all of these.
    """
    if rank(rows + [spot]) > rank(rows):
        return NOT_BETWEEN
    flat = flattened(rows + [spot])
    furthest = max([product(side, flat[-1]) for side in sides_between(flat[:-1])])
    if furthest > 0:
        return NOT_BETWEEN
    if furthest < 0 and rank(rows) > n:
        return INSIDE
    return BETWEEN


def flattened(rows):
    """Answers the points with as many numbers as the dimensions they lie in.

    A number goes if the points lie in as many dimensions without it: what is
    a mixture of what stays the same. The number below, the last, never goes:
    it is 0 in no row, so some other one can go as long as there are too many.
    """
    wanted = rank(rows)
    flat = rows
    place = 0
    while len(flat[0]) > wanted:
        without = [row[:place] + row[place + 1:] for row in flat]
        if rank(without) == wanted:
            flat = without
        else:
            place += 1
    return flat


def sides_between(rows):
    """Answers the sides of the points' body; they lie in as many dimensions as they have numbers."""
    found = []
    for bound in crossings(rows, len(rows[0])):
        products = [product(bound, row) for row in rows]
        if max(products) <= 0:
            found.append(bound)
        elif min(products) >= 0:
            found.append(negated(bound))
    return each_once(found)


def corners_between(rows, flat, sides):
    """Answers those of the points that are corners, by what they are flattened to and the sides of that."""
    return [row for row, shadow in zip(rows, flat) if is_met(shadow, sides)]


def is_met(row, others):
    """Answers whether enough of the others have product 0 with the row to leave no other such row.

    So a point of a body is a corner if its sides meet there in no other point.
    """
    return rank([other for other in others if product(row, other) == 0]) == len(row) - 1


def fewest_mixture(spot, corners):
    """Answers what tells the first of the spot's mixtures of the fewest corners; nothing if there is none.

    No more corners are needed than the spot's row has numbers: of more, some would be made of the others.
    """
    for numbers in choices(len(corners), len(spot)):
        weights = weights_of(spot, [corners[number] for number in numbers])
        if len(weights) > 0:
            return told_mixture(numbers, weights)
    return []


def weights_of(spot, corners):
    """Answers whole numbers above 0, one for each corner, that are to one another as the parts the spot is mixed of.

    Nothing, if there are none, or if one of the corners is made of the others: then fewer are enough.
    """
    ways = relations(corners + [spot])
    if len(ways) != 1:
        return []
    way = ways[0] if ways[0][-1] < 0 else negated(ways[0])
    weights = way[:-1]
    return weights if min(weights) > 0 else []


def cube(n):
    """Answers the half spaces that together have just the cube."""
    rows = []
    for place in range(n):
        front = unit_row(n, place)
        rows.append(front + [-REACH])
        rows.append(negated(front) + [-REACH])
    return rows


def corners_left(rows):
    """Answers the corners of what the half spaces leave, the cube's among them.

    What they leave has an end every way, so each point of it where bounds
    meet in no other point is a corner, and there are no other corners. For
    the same reason a row with 0 below, which is a direction and no point, is
    never within all of the half spaces.
    """
    found = []
    for crossing in crossings(rows, len(rows[0])):
        point = crossing if crossing[-1] > 0 else negated(crossing)
        if max([product(point, row) for row in rows]) <= 0:
            found.append(point)
    return each_once(found)


def is_needless(n, rows, place):
    """Answers whether the half space at this place has all that the others leave of the cube.

    That is all between the corners of what they leave, so it has it all if it
    has these; if they leave nothing, there is nothing that it lacks.
    """
    others = each_once(cube(n) + rows[:place] + rows[place + 1:])
    return all([product(corner, rows[place]) <= 0 for corner in corners_left(others)])


def in_order(points):
    """Answers the points, which may have different numbers below, in order."""
    shared = common_multiple([point[-1] for point in points])
    return sorted(points, key=lambda row: [above * (shared // row[-1]) for above in row[:-1]])


def told_body(n, corners, sides):
    """Answers the numbers that tell a body; its corners are in order.

    The sides count only if the body lies in n dimensions.
    """
    dimensions = rank(corners) - 1
    answer = [dimensions, len(corners)]
    for corner in corners:
        answer.extend(told_point(corner))
    if dimensions == n:
        answer.append(len(sides))
        for side in in_told_order(n, sides):
            answer.extend(side)
    return answer


def in_told_order(n, sides):
    """Answers the numbers that tell each of the sides, in order."""
    return sorted([row[:n] + [-row[n]] for row in sides])


def told_mixture(numbers, weights):
    """Answers how many corners it is a mixture of, and each one's number and part."""
    whole = sum(weights)
    answer = [len(numbers)]
    for number, weight in zip(numbers, weights):
        answer.append(number)
        answer.extend(reduced([weight, whole]))
    return answer


def told_furthest(products):
    """Answers how many of the corners' products are most, that most, and these corners' numbers.

    Points and directions are whole numbers, so what's below is 1.
    """
    furthest = max(products)
    numbers = [number for number in range(len(products)) if products[number] == furthest]
    return [len(numbers), furthest, 1] + numbers


def told_point(row):
    """Answers each number of the point as a fraction with nothing in common."""
    told = []
    for above in row[:-1]:
        told.extend(reduced([above, row[-1]]))
    return told
