"""Matrices and the operations on them (sections 3 to 5 of the document).

A matrix is a tuple of rows, a row a tuple of integers. The function of an
operation gets its numbers and then its matrices, and returns None if their
shapes do not fit or a row does not exist; `operate` checks the rest.
"""

LIMIT = 10000000
CELL = (1, 1)


def shape_of(matrix):
    """The pair of the number of rows and the number of columns."""
    return (len(matrix), len(matrix[0]))


def each_entry(rule, a):
    return tuple([tuple([rule(x) for x in row]) for row in a])


def each_pair(rule, a, b):
    if shape_of(a) != shape_of(b):
        return None
    return tuple([pairs_of_rows(rule, first, second) for first, second in zip(a, b)])


def pairs_of_rows(rule, first, second):
    return tuple([rule(x, y) for x, y in zip(first, second)])


def added(a, b):
    return each_pair(lambda x, y: x + y, a, b)


def subtracted(a, b):
    return each_pair(lambda x, y: x - y, a, b)


def multiplied(a, b):
    return each_pair(lambda x, y: x * y, a, b)


def gated(h, g):
    return each_pair(lambda x, y: y if x > 0 else 0, h, g)


def matrix_product(a, b):
    if len(a[0]) != len(b):
        return None
    columns = turned(b)
    return tuple([tuple([dot(row, column) for column in columns]) for row in a])


def dot(row, column):
    return sum([x * y for x, y in zip(row, column)])


def turned(a):
    return tuple(list(zip(*a)))


def positive(a):
    return each_entry(lambda x: max(x, 0), a)


def total(a):
    return ((sum([sum(row) for row in a]),),)


def spread(rows, columns, a):
    if shape_of(a) != CELL:
        return None
    return filled(rows, columns, a[0][0])


def stretched(factor, a):
    return each_entry(lambda x: x * factor, a)


def scaled(k, a):
    whole = 1 << k
    half = whole // 2
    return each_entry(lambda x: (x + half) // whole, a)


def picked(table, ids):
    numbers = row_numbers(ids, len(table))
    if numbers is None:
        return None
    return tuple([table[number] for number in numbers])


def placed(rows, ids, g):
    numbers = row_numbers(ids, rows)
    if numbers is None or len(ids) != len(g):
        return None
    sums = [[0] * len(g[0]) for _ in range(rows)]
    for number, row in zip(numbers, g):
        sums[number] = [x + y for x, y in zip(sums[number], row)]
    return tuple([tuple(entries) for entries in sums])


def row_numbers(ids, count):
    """The entries of ids, or None unless they are one column of numbers of `count` rows."""
    if len(ids[0]) != 1:
        return None
    numbers = [row[0] for row in ids]
    # A number below 0 names no row here, though it would be an index of a tuple.
    if any([number < 0 or number >= count for number in numbers]):
        return None
    return numbers


def filled(rows, columns, entry):
    return ((entry,) * columns,) * rows


MATRIX_COUNTS = {
    "add": 2,
    "sub": 2,
    "times": 2,
    "product": 2,
    "turn": 1,
    "positive": 1,
    "gate": 2,
    "total": 1,
    "spread": 1,
    "stretch": 1,
    "scale": 1,
    "pick": 2,
    "place": 2,
    "fill": 0,
}

ACTIONS = {
    "add": added,
    "sub": subtracted,
    "times": multiplied,
    "product": matrix_product,
    "turn": turned,
    "positive": positive,
    "gate": gated,
    "total": total,
    "spread": spread,
    "stretch": stretched,
    "scale": scaled,
    "pick": picked,
    "place": placed,
    "fill": filled,
}


def within_bounds(matrix):
    return all([-LIMIT < min(row) and max(row) < LIMIT for row in matrix])


def operate(kind, numbers, matrices):
    """The result of an operation, or None if it faults."""
    if len(matrices) != MATRIX_COUNTS[kind]:
        return None
    action = ACTIONS[kind]
    arguments = (*numbers, *matrices)
    result = action(*arguments)
    if result is None or not within_bounds(result):
        return None
    return result
