"""Every call: its arguments as the document has them, lists to hand in, and its answer by the words, refusals too."""

from tests import other
from tests.given import (
    EDGES, INFINITE, NOT_FINITE, ONE, SIGN, endless, great_doubles, near_doubles, short_doubles, small_doubles,
    wide_doubles,
)
from tests.squares import both_ways

ARGUMENTS = {
    "step": ["which", "x", "y", "z"],
    "sum_of": ["m", "n", "a", "b"],
    "less": ["m", "n", "a", "b"],
    "scaled": ["m", "n", "x", "a"],
    "flipped": ["m", "n", "a"],
    "rows": ["m", "n", "a", "p"],
    "same": ["m", "n", "a", "b"],
    "times": ["m", "k", "n", "a", "b"],
    "rest": ["m", "k", "n", "a", "x", "b"],
    "trace": ["n", "a"],
    "norms": ["m", "n", "a"],
    "lu": ["n", "a"],
    "det": ["n", "a"],
    "solve": ["n", "m", "a", "b"],
    "refined": ["n", "m", "many", "a", "b"],
    "inverse": ["n", "a"],
    "chol": ["n", "a"],
    "qr": ["m", "n", "a"],
    "least": ["m", "n", "k", "a", "b"],
    "power": ["n", "k", "a"],
    "exp": ["n", "terms", "halvings", "a"],
    "poly": ["n", "a", "c"],
    "own": ["n", "a"],
    "jacobi": ["n", "sweeps", "a"],
    "ordered": ["n", "d", "v"],
    "iterate": ["n", "many", "a", "x"],
}
# Of each list that is handed in the sizes whose product is its count; what is no list is not here.
COUNTS = {
    "step": {},
    "sum_of": {"a": "mn", "b": "mn"},
    "less": {"a": "mn", "b": "mn"},
    "scaled": {"a": "mn"},
    "flipped": {"a": "mn"},
    "rows": {"a": "mn", "p": "m"},
    "same": {"a": "mn", "b": "mn"},
    "times": {"a": "mk", "b": "kn"},
    "rest": {"a": "mk", "x": "kn", "b": "mn"},
    "trace": {"a": "nn"},
    "norms": {"a": "mn"},
    "lu": {"a": "nn"},
    "det": {"a": "nn"},
    "solve": {"a": "nn", "b": "nm"},
    "refined": {"a": "nn", "b": "nm"},
    "inverse": {"a": "nn"},
    "chol": {"a": "nn"},
    "qr": {"a": "mn"},
    "least": {"a": "mn", "b": "mk"},
    "power": {"a": "nn"},
    "exp": {"a": "nn"},
    "poly": {"a": "nn", "c": "free"},
    "own": {"a": "nn"},
    "jacobi": {"a": "nn"},
    "ordered": {"d": "n", "v": "nn"},
    "iterate": {"a": "nn", "x": "n"},
}
AT_MOST = {"which": 5, "many": 64, "terms": 64, "halvings": 64, "sweeps": 64}
# The refusals that each call can give by its steps.
BY_STEPS = {
    "flipped": set(), "same": set(), "ordered": set(), "rows": {-4}, "lu": {-3, -4}, "solve": {-3, -4},
    "refined": {-3, -4}, "inverse": {-3, -4}, "chol": {-3, -4}, "qr": {-3, -4}, "least": {-3, -4}, "jacobi": {-3, -4},
}
FAMILIES = (
    lambda seed, count: near_doubles(seed, count, 2), lambda seed, count: near_doubles(seed, count, 20),
    short_doubles, small_doubles, wide_doubles, great_doubles,
)


def sizes_of(name):
    letters = {letter for sizes in COUNTS[name].values() if sizes != "free" for letter in sizes}
    return [argument for argument in ARGUMENTS[name] if argument in letters]


def is_list(name, argument):
    return argument in COUNTS[name]


def is_double(name, argument):
    return argument in ("x", "y", "z") and not is_list(name, argument)


def product_of(sizes, values):
    count = 1
    for letter in sizes:
        count *= values[letter]
    return count


def has_wrong_count(name, values):
    if any(not 1 <= values[letter] <= 16 for letter in sizes_of(name)):
        return True
    if any(values[argument] > AT_MOST.get(argument, 2**64) for argument in values if not is_list(name, argument)):
        return True
    for argument, sizes in COUNTS[name].items():
        length = len(values[argument])
        if not (1 <= length <= 64 if sizes == "free" else length == product_of(sizes, values)):
            return True
    return False


def doubles_of(name, values):
    doubles = [values[argument] for argument in values if is_double(name, argument)]
    for argument in COUNTS[name]:
        if argument != "p":
            doubles += values[argument]
    return doubles


def answer_by_words(name, given):
    """What the document asks: the refusals in their order, and then the steps."""
    values = dict(zip(ARGUMENTS[name], given))
    if has_wrong_count(name, values):
        return [-1]
    if name in ("qr", "least") and values["m"] < values["n"]:
        return [-4]
    if any(x & ~SIGN >= INFINITE for x in doubles_of(name, values)):
        return [-2]
    words = getattr(other, name.replace("sum_of", "sum") + "_words")
    return other.answer(words, *given)


class Draw:
    """Numbers one behind another, the same for the same seed."""

    def __init__(self, seed):
        self.numbers = endless(seed)

    def below(self, bound):
        return next(self.numbers) % bound

    def one_of(self, values):
        return values[self.below(len(values))]


def plain_number(name, argument, draw):
    if argument in sizes_of(name):
        return draw.one_of((0, 17, 2**64 - 1)) if draw.below(40) == 0 else 1 + draw.below(4)
    if is_double(name, argument):
        if draw.below(20) == 0:
            return draw.one_of(NOT_FINITE)
        return draw.one_of(EDGES) if draw.below(2) == 0 else draw.one_of(FAMILIES)(draw.below(999), 1)[0]
    if argument in AT_MOST:
        return draw.one_of((65, 66, 2**64 - 1)) if draw.below(20) == 0 else draw.below(min(AT_MOST[argument] + 1, 6))
    return draw.below(20)


def list_of_count(name, argument, count, draw):
    if argument == "p":
        numbers = list(range(count))
        for i in range(count):
            j = draw.below(count)
            numbers[i], numbers[j] = numbers[j], numbers[i]
        return numbers if draw.below(5) else [draw.below(count + 1) for _ in range(count)]
    return draw.one_of(FAMILIES)(draw.below(999), count)


def fitted(name, numbers, n, draw):
    """jacobi and chol refuse nearly every table: such as they answer come by, too."""
    if len(numbers) != n * n or draw.below(6) == 0:
        return numbers
    if name == "jacobi":
        return both_ways(numbers)
    if name == "chol":
        return [x & ~SIGN | 1 << 61 if k % (n + 1) == 0 and draw.below(3) else x for k, x in enumerate(numbers)]
    return numbers


def spoiled(numbers, draw):
    if draw.below(20) == 0:
        return numbers[1:] if draw.below(2) else numbers + [draw.one_of((ONE, INFINITE))]
    if numbers and draw.below(20) == 0:
        place = draw.below(len(numbers))
        return numbers[:place] + [draw.one_of(NOT_FINITE)] + numbers[place + 1:]
    return numbers


def given_to(name, seed):
    """What is handed in to the call: mostly in order, now and then not."""
    draw = Draw(seed)
    values = {
        argument: plain_number(name, argument, draw) for argument in ARGUMENTS[name] if not is_list(name, argument)
    }
    for argument, sizes in COUNTS[name].items():
        if sizes == "free":
            count = draw.one_of((0, 65, 300)) if draw.below(20) == 0 else 1 + draw.below(5)
        else:
            count = min(product_of(sizes, values), 300)
        numbers = list_of_count(name, argument, count, draw)
        values[argument] = spoiled(fitted(name, numbers, values["n"], draw), draw)
    return [values[argument] for argument in ARGUMENTS[name]]
