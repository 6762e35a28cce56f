"""Rows of whole numbers, exactly.

A point is kept as a row: what's above for each of its numbers, then the one
number below that all of them share, above 0. A half space a x <= b is kept as
the row of a, then -b. So the product of both rows is below 0 if the point is
within the half space, 0 if it is on its bound, above 0 if it is outside; and
points through which a bound goes, and bounds that go through a point, are
found in the same way.
"""


def common_divisor(numbers):
    """Answers the greatest number that divides all of them; 0 if all are 0."""
    divisor = 0
    for number in numbers:
        other = abs(number)
        while other != 0:
            rest = divisor % other
            divisor = other
            other = rest
    return divisor


def common_multiple(numbers):
    """Answers the least number that all of them, each above 0, divide."""
    multiple = 1
    for number in numbers:
        multiple = multiple * (number // common_divisor([multiple, number]))
    return multiple


def reduced(row):
    """Answers the row, not all 0, without its common divisor."""
    divisor = common_divisor(row)
    return [number // divisor for number in row]


def negated(row):
    """Answers the row with each number's sign turned."""
    return [-number for number in row]


def product(left, right):
    """Answers the products, number by number, together."""
    return sum([one * other for one, other in zip(left, right)])


def each_once(rows):
    """Answers the rows in order, each one time."""
    found = []
    for row in sorted(rows):
        if len(found) == 0 or found[-1] != row:
            found.append(row)
    return found


def unit_row(width, one):
    """Answers a row of 0 with a 1 at one place."""
    return [1 if place == one else 0 for place in range(width)]


def unit_rows(width):
    """Answers rows of which every row of this width is made."""
    return [unit_row(width, one) for one in range(width)]


def narrowed(basis, row):
    """Answers rows that make just what the basis makes and whose product with the row is 0."""
    products = [product(member, row) for member in basis]
    slanted = [k for k in range(len(basis)) if products[k] != 0]
    if len(slanted) == 0:
        return basis
    pivot = slanted[0]
    rest = []
    for k in range(len(basis)):
        if k != pivot:
            straight = [one * products[pivot] - other * products[k] for one, other in zip(basis[k], basis[pivot])]
            rest.append(reduced(straight))
    return rest


def rank(rows):
    """Answers the most of the rows of which none is made of the others."""
    if len(rows) == 0:
        return 0
    width = len(rows[0])
    basis = unit_rows(width)
    for row in rows:
        basis = narrowed(basis, row)
    return width - len(basis)


def crossings(rows, width):
    """Answers, for each width - 1 of the rows of which none is made of the others,
    the row (one of its two signs) whose product with them is 0."""
    chosen = [(0, unit_rows(width))]
    for step in range(width - 1):
        chosen = with_one_more(chosen, rows)
    return [basis[0] for start, basis in chosen]


def with_one_more(chosen, rows):
    """Answers the choices of rows, each with each later row that isn't made of those it has.

    A choice is the place behind its last row and the rows whose product with all of it is 0.
    """
    more = []
    for start, basis in chosen:
        for k in range(start, len(rows)):
            rest = narrowed(basis, rows[k])
            if len(rest) < len(basis):
                more.append((k + 1, rest))
    return more


def relations(rows):
    """Answers rows of factors, one for each row, of which every row of factors is made that makes 0 of the rows."""
    basis = unit_rows(len(rows))
    for column in range(len(rows[0])):
        basis = narrowed(basis, [row[column] for row in rows])
    return basis


def choices(count, most):
    """Answers all choices of 1 to most of the numbers from 0 to count - 1, those of fewer numbers first.

    Each choice is rising, and those of as many numbers are in order.
    """
    found = []
    chosen = [[]]
    for size in range(most):
        chosen = with_a_later_number(chosen, count)
        found.extend(chosen)
    return found


def with_a_later_number(chosen, count):
    """Answers the choices, each with each number above all of its own."""
    more = []
    for numbers in chosen:
        start = numbers[-1] + 1 if len(numbers) > 0 else 0
        more.extend([numbers + [number] for number in range(start, count)])
    return more
