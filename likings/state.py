"""What a model holds: its settings, its ratings and its parameters."""

from likings.beginning import first_base, first_rows
from likings.settings import BIAS_PLACE, ITEM, UNIT, USER

NO_RATING = 0


class Model:
    """A model without ratings, whose parameters are the first ones."""

    def __init__(self, settings):
        self.settings = settings
        item_count = settings.row_counts[ITEM]
        self.ratings = [[NO_RATING] * item_count for user in range(settings.row_counts[USER])]
        self.base = 0
        self.rows = first_rows(settings)

    def begin_again(self):
        """Give all parameters their first values for the present ratings."""
        self.base = first_base(self.all_ratings())
        self.rows = first_rows(self.settings)

    def drop_ratings(self, user):
        """Remove all ratings of the user; answer their number."""
        removed_count = len(self.ratings_of(USER, user))
        self.ratings[user] = [NO_RATING] * len(self.ratings[user])
        return removed_count

    def twin(self):
        """A model of its own with the same ratings and parameters."""
        other = Model(self.settings)
        other.ratings = [list(row) for row in self.ratings]
        other.base = self.base
        other.rows = ([list(row) for row in self.rows[USER]], [list(row) for row in self.rows[ITEM]])
        return other

    def all_ratings(self):
        """The ratings of all users, without their users and items."""
        values = []
        for user in range(self.settings.row_counts[USER]):
            values.extend([value for item, value in self.ratings_of(USER, user)])
        return values

    def ratings_of(self, kind, number):
        """Pairs for the ratings of a row: the number of the other row, and the rating."""
        if kind == USER:
            values = self.ratings[number]
        else:
            values = [row[number] for row in self.ratings]
        return [(other, value) for other, value in enumerate(values) if value != NO_RATING]

    def prediction_parts(self, user, item):
        """What adds up to a prediction: the base, both biases, and the products of the factors in their order."""
        user_row = self.rows[USER][user]
        item_row = self.rows[ITEM][item]
        parts = [self.base, user_row[BIAS_PLACE], item_row[BIAS_PLACE]]
        for place in range(1, len(user_row)):
            parts.append(user_row[place] * item_row[place])
        return parts

    def prediction(self, user, item):
        return sum(self.prediction_parts(user, item))

    def residuals_of(self, kind, number):
        """Pairs for the ratings of a row: the number of the other row, and the residual."""
        pairs = []
        for other, value in self.ratings_of(kind, number):
            if kind == USER:
                predicted = self.prediction(number, other)
            else:
                predicted = self.prediction(other, number)
            pairs.append((other, UNIT * value - predicted))
        return pairs
