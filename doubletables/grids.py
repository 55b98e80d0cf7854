"""Tables as lists of rows, so that x[i][j] is the words' [i, j], and what is made of whole ones."""

from doubletables.doubles import ONE, fused, opposite, plus, root, size_of


def grid_of(numbers, n):
    return [numbers[start:start + n] for start in range(0, len(numbers), n)]


def flat(grid):
    numbers = []
    for row in grid:
        numbers.extend(row)
    return numbers


def column_of(grid, j):
    return [row[j] for row in grid]


def columns_of(grid):
    return [column_of(grid, j) for j in range(len(grid[0]))]


def zero_grid(m, n):
    return [[0] * n for i in range(m)]


def middle_row(x, n, i):
    return [x if j == i else 0 for j in range(n)]


def middle_grid(x, n):
    return [middle_row(x, n, i) for i in range(n)]


def unit_grid(n):
    return middle_grid(ONE, n)


def middle_of(grid):
    return [grid[i][i] for i in range(len(grid))]


def opposites(numbers):
    return [opposite(x) for x in numbers]


def added_up(numbers):
    s = 0
    for x in numbers:
        s = plus(s, x)
    return s


def trace_of(grid):
    return added_up(middle_of(grid))


def fused_along(row, column, start):
    s = start
    for x, y in zip(row, column):
        s = fused(x, y, s)
    return s


def times_onto(a, b, starts):
    # starts has what each number begins from: +0 for times, and b's numbers for rest.
    columns = columns_of(b)
    made = []
    for row, start_row in zip(a, starts):
        made.append([fused_along(row, column, start) for column, start in zip(columns, start_row)])
    return made


def times_of(a, b):
    return times_onto(a, b, zero_grid(len(a), len(b[0])))


def rest_of(a, x, b):
    return times_onto([opposites(row) for row in a], x, b)


def plus_row(row, other):
    return [plus(x, y) for x, y in zip(row, other)]


def plus_of(a, b):
    return [plus_row(row, other) for row, other in zip(a, b)]


def plus_in_middle(grid, x):
    made = [list(row) for row in grid]
    for j in range(len(made)):
        made[j][j] = plus(made[j][j], x)
    return made


def sizes_of(numbers):
    return [size_of(x) for x in numbers]


def greatest_size(numbers):
    # The bits of doubles that aren't below 0 rise as their values do, so max is the greatest value.
    return max(sizes_of(numbers))


def norms_of(a):
    sizes = [sizes_of(row) for row in a]
    column_sums = [added_up(column) for column in columns_of(sizes)]
    row_sums = [added_up(row) for row in sizes]
    numbers = flat(a)
    last = root(fused_along(numbers, numbers, 0))
    return [greatest_size(numbers), greatest_size(column_sums), greatest_size(row_sums), last]
