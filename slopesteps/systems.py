"""Linear equations with whole numbers, solved without a rounding.

A row is a list: one number for each unknown, and the number that these times the unknowns add up to.
"""


def all_solutions(rows, count):
    """Give (bottom, y0, others) for rows with count unknowns, or None if there's no solution.

    y0 and each of the others are lists of count whole numbers, to be divided by bottom. Each of the others has
    bottom at its last number that isn't 0, and there all the rest have 0; their last places rise.
    """
    pivots = []
    former = 1
    for column in range(count):
        rank = len(pivots)
        found = find_pivot(rows, rank, column)
        if found < len(rows):
            rows = cleared(exchanged(rows, rank, found), rank, column, former)
            former = rows[rank][column]
            pivots.append(column)
    if any([row[count] != 0 for row in rows[len(pivots):]]):
        return None
    free = [column for column in range(count) if column not in pivots]
    y0 = special_solution(rows, pivots, count)
    return (former, y0, [free_solution(rows, pivots, count, column, former) for column in free])


def find_pivot(rows, rank, column):
    """Give the first row from rank on that isn't 0 at the column, or how many rows there are."""
    place = rank
    while place < len(rows) and rows[place][column] == 0:
        place = place + 1
    return place


def exchanged(rows, first, second):
    """Give the rows with two of them in one another's place."""
    result = list(rows)
    result[first] = rows[second]
    result[second] = rows[first]
    return result


def cleared(rows, rank, column, former):
    """Give the rows with 0 at the column, but in the row rank; former is the pivot of the time before."""
    head = rows[rank]
    return [row if place == rank else cleared_row(row, head, column, former) for place, row in enumerate(rows)]


def cleared_row(row, head, column, former):
    """Give the row times the head's pivot, less the head times the row's number there, divided by former."""
    # What comes out is a determinant of the rows handed in, so former goes into it and the numbers stay small.
    pivot = head[column]
    share = row[column]
    return [(pivot * number - share * other) // former for number, other in zip(row, head)]


def special_solution(rows, pivots, count):
    """Give the solution with 0 at each column that has no pivot."""
    solution = [0] * count
    for place, column in enumerate(pivots):
        solution[column] = rows[place][count]
    return solution


def free_solution(rows, pivots, count, free, bottom):
    """Give the solution for right sides of 0 that has bottom at one free column and 0 at the others."""
    solution = [0] * count
    solution[free] = bottom
    for place, column in enumerate(pivots):
        solution[column] = -rows[place][free]
    return solution
