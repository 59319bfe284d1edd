"""The settings of a model: its sizes, ranges and penalties."""

USER = 0
ITEM = 1

BIAS_PLACE = 0
BIAS_LIMIT = 655360

# A rating of 1 in the unit of predictions.
UNIT = 65536

LOWEST_RATING = 1
HIGHEST_RATING = 10

# Lowest and highest value of each argument of create, in their order. The seed, the last one, may be any number.
CREATE_RANGES = ((1, 8), (1, 8), (0, 3), (1, 4096), (0, 1), (0, 100000000), (0, 1000))


def are_settings(numbers):
    """Tell whether the arguments of create are within their limits."""
    for position in range(len(CREATE_RANGES)):
        bounds = CREATE_RANGES[position]
        if numbers[position] < bounds[0] or numbers[position] > bounds[1]:
            return False
    return True


def is_rating(value):
    """Tell whether a user may give this rating."""
    return LOWEST_RATING <= value <= HIGHEST_RATING


class Settings:
    """What create is told; it stays as it is as long as the model lives."""

    def __init__(self, numbers):
        self.row_counts = (numbers[0], numbers[1])
        self.factor_count = numbers[2]
        self.limit = numbers[3]
        self.nonnegative = numbers[4]
        self.factor_penalty = numbers[5]
        self.bias_penalty = numbers[6]
        self.seed = numbers[7]
        self.parameters = self.ordered_parameters()

    def ordered_parameters(self):
        """Kind, number and place of each parameter but the base, in the order of the parameters."""
        found = []
        for kind in (USER, ITEM):
            for number in range(self.row_counts[kind]):
                for place in range(self.factor_count + 1):
                    found.append((kind, number, place))
        return found

    def has_user(self, user):
        return user < self.row_counts[USER]

    def has_item(self, item):
        return item < self.row_counts[ITEM]

    def has_pair(self, user, item):
        return self.has_user(user) and self.has_item(item)

    def has_row(self, kind, number):
        return kind <= ITEM and number < self.row_counts[kind]

    def has_parameter(self, kind, number, place):
        return self.has_row(kind, number) and place <= self.factor_count

    def lowest(self, place):
        """The lower end of the range of a parameter at this place."""
        if place == BIAS_PLACE:
            return -BIAS_LIMIT
        if self.nonnegative == 1:
            return 0
        return -self.limit

    def highest(self, place):
        """The upper end of the range of a parameter at this place."""
        if place == BIAS_PLACE:
            return BIAS_LIMIT
        return self.limit

    def is_in_range(self, place, value):
        return self.lowest(place) <= value <= self.highest(place)

    def penalty(self, place):
        """What the square of a parameter at this place counts in the objective."""
        if place == BIAS_PLACE:
            return self.bias_penalty
        return self.factor_penalty
