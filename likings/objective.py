"""The objective, as a whole and as a function of one parameter, and the mean error."""

from likings.settings import BIAS_PLACE, UNIT, USER


def error_part(model):
    """The sum of the squares of all residuals."""
    total = 0
    for user in range(model.settings.row_counts[USER]):
        for item, residual in model.residuals_of(USER, user):
            total += residual * residual
    return total


def penalty_part(model):
    """The sum of the squares of all parameters but the base, each with its penalty."""
    total = 0
    for kind, number, place in model.settings.parameters:
        value = model.rows[kind][number][place]
        total += model.settings.penalty(place) * value * value
    return total


def whole_objective(model):
    return error_part(model) + penalty_part(model)


def lowest_terms(numerator, denominator):
    """The fraction of two numbers in lowest terms; the first is not below 0, the second above it."""
    divisor = numerator
    rest = denominator
    while rest != 0:
        remainder = divisor % rest
        divisor = rest
        rest = remainder
    return [numerator // divisor, denominator // divisor]


def mean_error(model):
    """Numerator and denominator of the mean square of the residuals in units of a rating; there is a rating."""
    return lowest_terms(error_part(model), len(model.all_ratings()) * UNIT * UNIT)


class Quadratic:
    """The objective as a function of one parameter, but for a constant."""

    def __init__(self, curvature, slope):
        self.curvature = curvature
        self.slope = slope

    def height(self, value):
        return self.curvature * value * value - 2 * self.slope * value

    def nearest(self):
        """The whole number nearest to the minimum, a half rounded up; the curvature isn't 0."""
        return (2 * self.slope + self.curvature) // (2 * self.curvature)


def quadratic_of(model, kind, number, place):
    """The quadratic of a parameter."""
    present = model.rows[kind][number][place]
    others = model.rows[1 - kind]
    curvature = model.settings.penalty(place)
    slope = 0
    for other, residual in model.residuals_of(kind, number):
        weight = 1 if place == BIAS_PLACE else others[other][place]
        curvature += weight * weight
        # The residual belongs to the present value; the slope asks for that with the value 0.
        slope += weight * (residual + weight * present)
    return Quadratic(curvature, slope)
