"""What the tests share: calls by name, and a slow model that follows the document's definitions word by word."""

import math
from fractions import Fraction

from likings.models import answers

NUMBERS = {
    "create": 0, "set_rating": 1, "clear_rating": 2, "delete_user": 3, "reset": 4, "step": 5,
    "sweep": 6, "train": 7, "objective": 8, "curve": 9, "certificate": 10, "quadratic": 11,
    "parameter": 12, "set_parameter": 13, "predict": 14, "explain": 15, "residuals": 16, "mean_error": 17,
    "recommend": 18, "similar": 19, "fold_in": 20, "recommend_new": 21, "without": 22, "status": 23,
}

# Every call but create: first with arguments that are in order on any model, then with arguments that never are.
OTHER_CALLS = [
    ("set_rating", 0, 0, 1), ("clear_rating", 0, 0), ("delete_user", 0), ("reset",), ("step", 0, 0, 0),
    ("sweep",), ("train", 1), ("objective",), ("curve", 1), ("certificate",), ("quadratic", 0, 0, 0),
    ("parameter", 0, 0, 0), ("set_parameter", 0, 0, 0, 1, 5), ("predict", 0, 0), ("explain", 0, 0), ("residuals", 0),
    ("mean_error",), ("recommend", 0, 1), ("similar", 0, 0, 1), ("fold_in",), ("fold_in", 0, 1), ("recommend_new", 1),
    ("recommend_new", 1, 0, 1), ("without", 0, 1), ("status",),
    ("set_rating", 8, 8, 11), ("clear_rating", 8, 8), ("delete_user", 8), ("step", 2, 8, 4),
    ("train", 101), ("curve", 21), ("quadratic", 2, 8, 4),
    ("parameter", 2, 8, 4), ("set_parameter", 2, 8, 4, 2, 655361), ("predict", 8, 8), ("explain", 8, 8),
    ("residuals", 8), ("recommend", 8, 1), ("similar", 2, 8, 1), ("fold_in", 8), ("fold_in", 8, 11),
    ("recommend_new", 1, 8), ("recommend_new", 1, 8, 11), ("without", 8, 101),
]


# The largest number that is handed in.
LARGEST = 4294967295


def order_of(users, items, factors):
    """Kind, number and place of each parameter but the base, in their order."""
    return [(kind, number, place) for kind in (0, 1) for number in range((users, items)[kind])
            for place in range(factors + 1)]


def look_at(users, items, factors):
    """Calls that tell all that a model with these sizes holds but its settings; they don't change it."""
    parameters = [("parameter", *parameter) for parameter in order_of(users, items, factors)]
    return [("status",), ("explain", 0, 0), *parameters, *[("residuals", user) for user in range(users)]]


def written(calls):
    """The list of whole numbers for calls such as ("step", 0, 0, 0)."""
    numbers = []
    for name, *arguments in calls:
        numbers += [NUMBERS.get(name, name), len(arguments), *arguments, 0]
    return numbers


def parted(numbers):
    """The answers, one list each."""
    found = []
    position = 0
    while position < len(numbers):
        start = position + 1
        position = start + numbers[position]
        found.append(numbers[start:position])
    return found


def run(*calls):
    return parted(answers(written(calls)))


def last(*calls):
    """The answer of the last of the calls."""
    return run(*calls)[-1]


def fnv(data):
    value = 0xCBF29CE484222325
    for byte in data:
        value = (value ^ byte) * 0x100000001B3 % (1 << 64)
    return value


class SlowModel:
    """The calls by the definitions: a quadratic is measured on the objective, nothing is kept between calls."""

    def __init__(self, users, items, factors, limit, nonnegative, penalty, bias_penalty, seed):
        self.counts = (users, items)
        self.factors, self.limit, self.nonnegative = factors, limit, nonnegative
        self.penalties = (bias_penalty, penalty)
        self.seed = seed
        self.ratings = {}
        self.reset()

    def order(self):
        return order_of(*self.counts, self.factors)

    def first(self, kind, number, place):
        if place == 0:
            return 0
        data = b"".join(part.to_bytes(4, "little") for part in (self.seed, kind, number, place))
        g = math.floor(Fraction(fnv(data), 65536))
        s = min(self.limit, 64)
        return g % (s + 1) if self.nonnegative else g % (2 * s + 1) - s

    def ends(self, place):
        if place == 0:
            return -655360, 655360
        return (0 if self.nonnegative else -self.limit), self.limit

    def prediction(self, user, item):
        products = [self.values[0, user, place] * self.values[1, item, place] for place in range(1, self.factors + 1)]
        return self.base + self.values[0, user, 0] + self.values[1, item, 0] + sum(products)

    def error(self):
        return sum((65536 * rating - self.prediction(*pair)) ** 2 for pair, rating in self.ratings.items())

    def penalty(self):
        return sum(self.penalties[min(place, 1)] * value ** 2 for (_, _, place), value in self.values.items())

    def height(self, parameter, value):
        """The objective if the parameter had this value."""
        present = self.values[parameter]
        self.values[parameter] = value
        result = self.error() + self.penalty()
        self.values[parameter] = present
        return result

    def set_rating(self, user, item, value):
        old = self.ratings.get((user, item), 0)
        self.ratings[user, item] = value
        return [old]

    def clear_rating(self, user, item):
        return [self.ratings.pop((user, item), -33)]

    def delete_user(self, user):
        mine = [pair for pair in self.ratings if pair[0] == user]
        for pair in mine:
            del self.ratings[pair]
        return [len(mine)]

    def reset(self):
        ratings = list(self.ratings.values())
        self.base = math.floor(Fraction(sum(ratings), len(ratings)) * 65536) if ratings else 0
        self.values = {parameter: self.first(*parameter) for parameter in self.order()}
        return [self.base]

    def quadratic(self, *parameter):
        low, middle, high = (self.height(parameter, value) for value in (-1, 0, 1))
        return [0, (low + high - 2 * middle) // 2, (low - high) // 4]

    def step(self, *parameter):
        _, curvature, slope = self.quadratic(*parameter)
        present = self.values[parameter]
        if curvature:
            lowest, highest = self.ends(parameter[2])
            y = math.floor(Fraction(slope, curvature) + Fraction(1, 2))
            y = lowest if y < lowest else highest if y > highest else y
            if self.height(parameter, y) < self.height(parameter, present):
                self.values[parameter] = y
        return [int(self.values[parameter] != present), present, self.values[parameter]]

    def sweep(self):
        before = dict(self.values)
        for parameter in self.order():
            self.step(*parameter)
        changed = [parameter for parameter in before if before[parameter] != self.values[parameter]]
        return [len(changed), self.error() + self.penalty()]

    def train(self, most):
        for made in range(1, most + 1):
            if self.sweep()[0] == 0:
                return [made, 1, self.error() + self.penalty()]
        return [most, 0, self.error() + self.penalty()]

    def objective(self):
        return [0, self.error() + self.penalty(), self.error(), self.penalty()]

    def curve(self, count):
        kept = dict(self.values)
        found = [self.sweep()[1] for _ in range(count)]
        self.values = kept
        return [count, *found]

    def certificate(self):
        kept = dict(self.values)
        for parameter in self.order():
            is_changed = self.step(*parameter)[0]
            self.values = dict(kept)
            if is_changed:
                return [0, *parameter]
        return [1]

    def parameter(self, *parameter):
        return [0, self.values[parameter]]

    def set_parameter(self, kind, number, place, negative, size):
        lowest, highest = self.ends(place)
        value = -size if negative else size
        if not lowest <= value <= highest:
            return [-22]
        old = self.values[kind, number, place]
        self.values[kind, number, place] = value
        return [0, old]

    def predict(self, user, item):
        return [0, self.prediction(user, item)]

    def explain(self, user, item):
        products = [self.values[0, user, place] * self.values[1, item, place] for place in range(1, self.factors + 1)]
        return [3 + self.factors, self.base, self.values[0, user, 0], self.values[1, item, 0], *products]

    def residuals(self, user):
        mine = [item for item in range(self.counts[1]) if (user, item) in self.ratings]
        found = [len(mine)]
        for item in mine:
            found += [item, 65536 * self.ratings[user, item] - self.prediction(user, item)]
        return found

    def mean_error(self):
        if not self.ratings:
            return [-33]
        mean = Fraction(self.error(), len(self.ratings)) / 65536 ** 2
        return [0, mean.numerator, mean.denominator]

    def recommend(self, user, count):
        left = [item for item in range(self.counts[1]) if (user, item) not in self.ratings]
        found = []
        while left and len(found) < count:
            best = max(self.prediction(user, item) for item in left)
            item = next(item for item in left if self.prediction(user, item) == best)
            left.remove(item)
            found.append((item, best))
        return [len(found), *[number for pair in found for number in pair]]

    def similar(self, kind, number, count):
        def product(one, two):
            return sum(self.values[kind, one, place] * self.values[kind, two, place]
                       for place in range(1, self.factors + 1))

        def squared_cosine(other):
            return Fraction(product(number, other) ** 2, product(number, number) * product(other, other))

        near = [other for other in range(self.counts[kind]) if other != number and product(number, other) > 0]
        near.sort(key=squared_cosine, reverse=True)
        return [len(near[:count]), *near[:count]]

    def newcomer(self, ratings):
        """How many rounds there are, and a model in which the new user is the only one."""
        other = SlowModel(1, self.counts[1], self.factors, self.limit, self.nonnegative, self.penalties[1],
                          self.penalties[0], self.seed)
        other.base = self.base
        for kind, number, place in other.order():
            other.values[kind, number, place] = self.values[kind, number, place] if kind else 0
        other.ratings = {(0, item): rating for item, rating in zip(ratings[0::2], ratings[1::2])}
        for rounds in range(1, 101):
            changes = [other.step(0, 0, place)[0] for place in range(self.factors + 1)]
            if not any(changes):
                break
        return rounds, other

    def fold_in(self, *ratings):
        rounds, other = self.newcomer(ratings)
        return [rounds, *[other.values[0, 0, place] for place in range(self.factors + 1)]]

    def recommend_new(self, count, *ratings):
        return self.newcomer(ratings)[1].recommend(0, count)

    def without(self, user, most):
        self.delete_user(user)
        self.reset()
        return self.train(most)

    def status(self):
        return [*self.counts, self.factors, len(self.ratings), len(self.order())]


def slow_run(create, *calls):
    """The answers that the definitions give to calls which are in order; the first of them is create."""
    model = SlowModel(*create[1:])
    return [[len(model.order())]] + [getattr(model, name)(*arguments) for name, *arguments in calls]
