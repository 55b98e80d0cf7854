"""The calls reckoned another way: the words as they stand, on dicts by place, with the steps of tests.given."""

from tests.given import ONE, SIGN, ZERO, bits, exact, is_minus, minus_sign, other_step

ADD, SUBTRACT, MULTIPLY, DIVIDE, ROOT, FUSE = range(6)


class Refused(Exception):
    def __init__(self, number):
        super().__init__(number)
        self.number = number


def made(which, x, y=ZERO, z=ZERO):
    result = other_step(which, x, y, z)
    if result is None:
        raise Refused(-3)
    return result


def size(x):
    return x & (SIGN - 1)


def is_nought(x):
    return size(x) == 0


def by_place(numbers, m, n):
    return {(i, j): numbers[i * n + j] for i in range(m) for j in range(n)}


def in_order(places, m, n):
    return [places[i, j] for i in range(m) for j in range(n)]


def row_told(numbers):
    return [len(numbers)] + numbers


def answer(work, *given):
    try:
        return [0] + work(*given)
    except Refused as refused:
        return [refused.number]


def step_words(which, x, y, z):
    return [made(which, x, y, z)]


def sum_words(m, n, a, b):
    return row_told([made(ADD, x, y) for x, y in zip(a, b)])


def less_words(m, n, a, b):
    return row_told([made(SUBTRACT, x, y) for x, y in zip(a, b)])


def scaled_words(m, n, x, a):
    return row_told([made(MULTIPLY, y, x) for y in a])


def flipped_words(m, n, a):
    return row_told([a[i * n + j] for j in range(n) for i in range(m)])


def rows_words(m, n, a, p):
    if any(p.count(i) != 1 for i in range(m)):
        raise Refused(-4)
    return row_told([a[p[i] * n + j] for i in range(m) for j in range(n)])


def same_words(m, n, a, b):
    return [1 if all(exact(x) == exact(y) for x, y in zip(a, b)) else 0]


def times_words(m, k, n, a, b):
    numbers = []
    for i in range(m):
        for j in range(n):
            s = ZERO
            for t in range(k):
                s = made(FUSE, a[i * k + t], b[t * n + j], s)
            numbers.append(s)
    return row_told(numbers)


def rest_words(m, k, n, a, x, b):
    left = []
    for i in range(m):
        for j in range(n):
            s = b[i * n + j]
            for t in range(k):
                s = made(FUSE, minus_sign(a[i * k + t]), x[t * n + j], s)
            left.append(s)
    return row_told(left)


def trace_words(n, a):
    s = ZERO
    for i in range(n):
        s = made(ADD, s, a[i * n + i])
    return [s]


def summed(numbers):
    s = ZERO
    for x in numbers:
        s = made(ADD, s, size(x))
    return s


def norms_words(m, n, a):
    x = by_place(a, m, n)
    columns = [summed([x[i, j] for i in range(m)]) for j in range(n)]
    rows = [summed([x[i, j] for j in range(n)]) for i in range(m)]
    s = ZERO
    for i in range(m):
        for j in range(n):
            s = made(FUSE, x[i, j], x[i, j], s)
    return row_told([max(size(y) for y in a), max(columns), max(rows), made(ROOT, s)])


def lu_parts(n, a):
    x = by_place(a, n, n)
    p = list(range(n))
    sign = 1
    for k in range(n):
        greatest = max(size(x[i, k]) for i in range(k, n))
        r = [i for i in range(k, n) if size(x[i, k]) == greatest][0]
        if greatest == 0:
            raise Refused(-4)
        if r != k:
            for j in range(n):
                x[r, j], x[k, j] = x[k, j], x[r, j]
            p[r], p[k] = p[k], p[r]
            sign = -sign
        for i in range(k + 1, n):
            x[i, k] = made(DIVIDE, x[i, k], x[k, k])
            for j in range(k + 1, n):
                x[i, j] = made(FUSE, minus_sign(x[i, k]), x[k, j], x[i, j])
    return x, p, sign


def lu_words(n, a):
    x, p, sign = lu_parts(n, a)
    return row_told(in_order(x, n, n)) + row_told(p) + [sign]


def det_words(n, a):
    try:
        x, p, sign = lu_parts(n, a)
    except Refused as refused:
        if refused.number == -4:
            return [ZERO]
        raise
    s = ONE if sign == 1 else minus_sign(ONE)
    for k in range(n):
        s = made(MULTIPLY, s, x[k, k])
    return [s]


def falling(n, m, x, y):
    for i in reversed(range(n)):
        for j in range(i + 1, n):
            for c in range(m):
                y[i, c] = made(FUSE, minus_sign(x[i, j]), y[j, c], y[i, c])
        for c in range(m):
            y[i, c] = made(DIVIDE, y[i, c], x[i, i])


def solve_parts(n, m, a, b):
    x, p, sign = lu_parts(n, a)
    z = by_place(b, n, m)
    y = {(i, c): z[p[i], c] for i in range(n) for c in range(m)}
    for i in range(n):
        for j in range(i):
            for c in range(m):
                y[i, c] = made(FUSE, minus_sign(x[i, j]), y[j, c], y[i, c])
    falling(n, m, x, y)
    return in_order(y, n, m)


def solve_words(n, m, a, b):
    return row_told(solve_parts(n, m, a, b))


def rest_parts(n, m, a, y, b):
    return rest_words(n, n, m, a, y, b)[1:]


def refined_words(n, m, many, a, b):
    y = solve_parts(n, m, a, b)
    for _ in range(many):
        d = solve_parts(n, m, a, rest_parts(n, m, a, y, b))
        y = [made(ADD, s, t) for s, t in zip(y, d)]
    return row_told(y)


def unit(n):
    return [ONE if i == j else ZERO for i in range(n) for j in range(n)]


def inverse_words(n, a):
    return row_told(solve_parts(n, n, a, unit(n)))


def chol_words(n, a):
    a = by_place(a, n, n)
    x = {(i, j): ZERO for i in range(n) for j in range(n)}
    for j in range(n):
        s = a[j, j]
        for k in range(j):
            s = made(FUSE, minus_sign(x[j, k]), x[j, k], s)
        if is_nought(s) or is_minus(s):
            raise Refused(-4)
        x[j, j] = made(ROOT, s)
        for i in range(j + 1, n):
            s = a[i, j]
            for k in range(j):
                s = made(FUSE, minus_sign(x[i, k]), x[j, k], s)
            x[i, j] = made(DIVIDE, s, x[j, j])
    return row_told(in_order(x, n, n))


def qr_parts(m, n, a):
    x = by_place(a, m, n)
    q = {}
    r = {(i, j): ZERO for i in range(n) for j in range(n)}
    for k in range(n):
        s = ZERO
        for i in range(m):
            s = made(FUSE, x[i, k], x[i, k], s)
        if is_nought(s):
            raise Refused(-4)
        r[k, k] = made(ROOT, s)
        for i in range(m):
            q[i, k] = made(DIVIDE, x[i, k], r[k, k])
        for j in range(k + 1, n):
            s = ZERO
            for i in range(m):
                s = made(FUSE, q[i, k], x[i, j], s)
            r[k, j] = s
            for i in range(m):
                x[i, j] = made(FUSE, minus_sign(s), q[i, k], x[i, j])
    return q, r


def qr_words(m, n, a):
    q, r = qr_parts(m, n, a)
    return row_told(in_order(q, m, n)) + row_told(in_order(r, n, n))


def least_words(m, n, k, a, b):
    q, r = qr_parts(m, n, a)
    b = by_place(b, m, k)
    y = {}
    for j in range(n):
        for c in range(k):
            s = ZERO
            for i in range(m):
                s = made(FUSE, q[i, j], b[i, c], s)
            y[j, c] = s
    falling(n, k, r, y)
    return row_told(in_order(y, n, k))


def times_parts(n, a, b):
    return times_words(n, n, n, a, b)[1:]


def power_words(n, k, a):
    s, t = unit(n), a
    while k != 0:
        if k % 2 == 1:
            s = times_parts(n, s, t)
        k //= 2
        if k != 0:
            t = times_parts(n, t, t)
    return row_told(s)


def exp_words(n, terms, halvings, a):
    t, s = unit(n), unit(n)
    b = [made(MULTIPLY, x, bits(0.5**halvings)) for x in a]
    for i in range(1, terms + 1):
        t = times_parts(n, t, b)
        t = [made(DIVIDE, x, bits(float(i))) for x in t]
        s = [made(ADD, x, y) for x, y in zip(s, t)]
    for _ in range(halvings):
        s = times_parts(n, s, s)
    return row_told(s)


def poly_words(n, a, c):
    k = len(c)
    s = [c[k - 1] if i == j else ZERO for i in range(n) for j in range(n)]
    for i in reversed(range(k - 1)):
        s = times_parts(n, s, a)
        for j in range(n):
            s[j * n + j] = made(ADD, s[j * n + j], c[i])
    return row_told(s)


def own_words(n, a):
    o = {n: ONE}
    t = unit(n)
    for k in range(1, n + 1):
        u = times_parts(n, a, t)
        s = trace_words(n, u)[0]
        o[n - k] = minus_sign(made(DIVIDE, s, bits(float(k))))
        t = list(u)
        for j in range(n):
            t[j * n + j] = made(ADD, u[j * n + j], o[n - k])
    return row_told([o[i] for i in range(n + 1)])


def turn_words(n, x, v, p, q):
    """One p, q of a sweep; it answers which way t came by, for the tests that want both."""
    if is_nought(x[p, q]):
        return "passed by"
    e = made(SUBTRACT, x[q, q], x[p, p])
    if abs(exact(x[p, q])) * 2**500 < abs(exact(e)):
        way, t = "far", made(DIVIDE, x[p, q], e)
    else:
        h = made(DIVIDE, e, made(ADD, x[p, q], x[p, q]))
        g = made(ADD, size(h), made(ROOT, made(FUSE, h, h, ONE)))
        way, t = "near", made(DIVIDE, ONE, g)
        if exact(h) < 0:
            t = minus_sign(t)
    c = made(DIVIDE, ONE, made(ROOT, made(FUSE, t, t, ONE)))
    s = made(MULTIPLY, t, c)
    z = x[p, q]
    x[p, p] = made(FUSE, minus_sign(t), z, x[p, p])
    x[q, q] = made(FUSE, t, z, x[q, q])
    x[p, q] = x[q, p] = ZERO
    for i in range(n):
        if i not in (p, q):
            u, w = x[i, p], x[i, q]
            x[i, p] = x[p, i] = made(FUSE, c, u, minus_sign(made(MULTIPLY, s, w)))
            x[i, q] = x[q, i] = made(FUSE, s, u, made(MULTIPLY, c, w))
    for i in range(n):
        u, w = v[i, p], v[i, q]
        v[i, p] = made(FUSE, c, u, minus_sign(made(MULTIPLY, s, w)))
        v[i, q] = made(FUSE, s, u, made(MULTIPLY, c, w))
    return way


def jacobi_words(n, sweeps, a):
    x = by_place(a, n, n)
    if any(exact(x[i, j]) != exact(x[j, i]) for i in range(n) for j in range(n)):
        raise Refused(-4)
    v = by_place(unit(n), n, n)
    for _ in range(sweeps):
        for p in range(n - 1):
            for q in range(p + 1, n):
                turn_words(n, x, v, p, q)
    return row_told([x[i, i] for i in range(n)]) + row_told(in_order(v, n, n))


def ordered_words(n, d, v):
    v = by_place(v, n, n)
    order = []
    for new in range(n):
        place = 0
        while place < len(order) and exact(d[order[place]]) <= exact(d[new]):
            place += 1
        order.insert(place, new)
    return row_told([d[k] for k in order]) + row_told([v[i, k] for i in range(n) for k in order])


def iterate_words(n, many, a, x):
    y = list(x)
    told = []
    for _ in range(many):
        told += y
        z = []
        for i in range(n):
            s = ZERO
            for j in range(n):
                s = made(FUSE, a[i * n + j], y[j], s)
            z.append(s)
        g = max(z, key=lambda s: abs(exact(s)))
        if is_nought(g):
            return [1] + row_told(told)
        y = [made(DIVIDE, s, size(g)) for s in z]
    return [0] + row_told(told)
