"""The calls: each takes its whole numbers and answers a list of whole numbers."""

from likings.objective import error_part, penalty_part, quadratic_of, whole_objective
from likings.settings import USER, Settings, are_settings
from likings.state import NO_RATING, Model
from likings.training import coming_objectives, first_improvable, step, sweep, train

NO_MODEL = -11
NOT_THERE = -2
OUTSIDE_LIMITS = -22
NO_SUCH_RATING = -33

LOWEST_RATING = 1
HIGHEST_RATING = 10
MOST_SWEEPS = 100
LONGEST_CURVE = 20

CREATE = 0


class Session:
    """The object on which a list of calls is executed; it has no model at first."""

    def __init__(self):
        self.model = None


def answer_create(session, numbers):
    if not are_settings(numbers):
        return [OUTSIDE_LIMITS]
    settings = Settings(numbers)
    session.model = Model(settings)
    return [len(settings.parameters)]


def answer_set_rating(model, numbers):
    user = numbers[0]
    item = numbers[1]
    value = numbers[2]
    if not model.settings.has_pair(user, item):
        return [NOT_THERE]
    if value < LOWEST_RATING or value > HIGHEST_RATING:
        return [OUTSIDE_LIMITS]
    old_value = model.ratings[user][item]
    model.ratings[user][item] = value
    return [old_value]


def answer_clear_rating(model, numbers):
    user = numbers[0]
    item = numbers[1]
    if not model.settings.has_pair(user, item):
        return [NOT_THERE]
    old_value = model.ratings[user][item]
    if old_value == NO_RATING:
        return [NO_SUCH_RATING]
    model.ratings[user][item] = NO_RATING
    return [old_value]


def answer_delete_user(model, numbers):
    user = numbers[0]
    if not model.settings.has_user(user):
        return [NOT_THERE]
    removed_count = len(model.ratings_of(USER, user))
    model.ratings[user] = [NO_RATING] * len(model.ratings[user])
    return [removed_count]


def answer_reset(model, numbers):
    model.begin_again()
    return [model.base]


def answer_step(model, numbers):
    kind = numbers[0]
    number = numbers[1]
    place = numbers[2]
    if not model.settings.has_parameter(kind, number, place):
        return [NOT_THERE]
    old_value = model.rows[kind][number][place]
    is_changed = step(model, kind, number, place)
    return [is_changed, old_value, model.rows[kind][number][place]]


def answer_sweep(model, numbers):
    change_count = sweep(model)
    return [change_count, whole_objective(model)]


def answer_train(model, numbers):
    most = numbers[0]
    if most > MOST_SWEEPS:
        return [OUTSIDE_LIMITS]
    return train(model, most) + [whole_objective(model)]


def answer_objective(model, numbers):
    error = error_part(model)
    penalty = penalty_part(model)
    return [0, error + penalty, error, penalty]


def answer_curve(model, numbers):
    count = numbers[0]
    if count > LONGEST_CURVE:
        return [OUTSIDE_LIMITS]
    return [count] + coming_objectives(model, count)


def answer_certificate(model, numbers):
    found = first_improvable(model)
    if len(found) == 0:
        return [1]
    return [0] + found


def answer_quadratic(model, numbers):
    kind = numbers[0]
    number = numbers[1]
    place = numbers[2]
    if not model.settings.has_parameter(kind, number, place):
        return [NOT_THERE]
    form = quadratic_of(model, kind, number, place)
    return [0, form.curvature, form.slope]


# By the number of the call; create stands apart because it alone needs no model.
MODEL_CALLS = {
    1: answer_set_rating,
    2: answer_clear_rating,
    3: answer_delete_user,
    4: answer_reset,
    5: answer_step,
    6: answer_sweep,
    7: answer_train,
    8: answer_objective,
    9: answer_curve,
    10: answer_certificate,
    11: answer_quadratic,
}


def execute(session, call, numbers):
    """Execute one call with its whole numbers; the answer begins with a code below 0 if it fails."""
    if call == CREATE:
        return answer_create(session, numbers)
    if session.model is None:
        return [NO_MODEL]
    answer = MODEL_CALLS[call]
    return answer(session.model, numbers)
