"""The calls: each takes its whole numbers and answers a list of whole numbers."""

from likings.advice import recommended, similar_rows
from likings.newcomer import NEWCOMER, are_new_ratings, make_rounds, with_newcomer
from likings.objective import error_part, mean_error, penalty_part, quadratic_of, whole_objective
from likings.settings import ITEM, USER, Settings, are_settings, is_rating
from likings.state import NO_RATING, Model
from likings.training import coming_objectives, first_improvable, step, sweep, train

NO_MODEL = -11
NOT_THERE = -2
OUTSIDE_LIMITS = -22
NO_SUCH_RATING = -33

MOST_SWEEPS = 100
LONGEST_CURVE = 20

CREATE = 0


class Session:
    """The object on which a list of calls is executed; it has no model at first."""

    def __init__(self):
        self.model = None


def answer_create(session, numbers):
    if not are_settings(numbers):
        return [OUTSIDE_LIMITS]
    settings = Settings(numbers)
    session.model = Model(settings)
    return [len(settings.parameters)]


def answer_set_rating(model, numbers):
    user = numbers[0]
    item = numbers[1]
    value = numbers[2]
    if not model.settings.has_pair(user, item):
        return [NOT_THERE]
    if not is_rating(value):
        return [OUTSIDE_LIMITS]
    old_value = model.ratings[user][item]
    model.ratings[user][item] = value
    return [old_value]


def answer_clear_rating(model, numbers):
    user = numbers[0]
    item = numbers[1]
    if not model.settings.has_pair(user, item):
        return [NOT_THERE]
    old_value = model.ratings[user][item]
    if old_value == NO_RATING:
        return [NO_SUCH_RATING]
    model.ratings[user][item] = NO_RATING
    return [old_value]


def answer_delete_user(model, numbers):
    user = numbers[0]
    if not model.settings.has_user(user):
        return [NOT_THERE]
    return [model.drop_ratings(user)]


def answer_reset(model, numbers):
    model.begin_again()
    return [model.base]


def answer_step(model, numbers):
    kind = numbers[0]
    number = numbers[1]
    place = numbers[2]
    if not model.settings.has_parameter(kind, number, place):
        return [NOT_THERE]
    old_value = model.rows[kind][number][place]
    is_changed = step(model, kind, number, place)
    return [is_changed, old_value, model.rows[kind][number][place]]


def answer_sweep(model, numbers):
    change_count = sweep(model)
    return [change_count, whole_objective(model)]


def answer_train(model, numbers):
    most = numbers[0]
    if most > MOST_SWEEPS:
        return [OUTSIDE_LIMITS]
    return train(model, most) + [whole_objective(model)]


def answer_objective(model, numbers):
    error = error_part(model)
    penalty = penalty_part(model)
    return [0, error + penalty, error, penalty]


def answer_curve(model, numbers):
    count = numbers[0]
    if count > LONGEST_CURVE:
        return [OUTSIDE_LIMITS]
    return [count] + coming_objectives(model, count)


def answer_certificate(model, numbers):
    found = first_improvable(model)
    if len(found) == 0:
        return [1]
    return [0] + found


def answer_quadratic(model, numbers):
    kind = numbers[0]
    number = numbers[1]
    place = numbers[2]
    if not model.settings.has_parameter(kind, number, place):
        return [NOT_THERE]
    form = quadratic_of(model, kind, number, place)
    return [0, form.curvature, form.slope]


def answer_parameter(model, numbers):
    kind = numbers[0]
    number = numbers[1]
    place = numbers[2]
    if not model.settings.has_parameter(kind, number, place):
        return [NOT_THERE]
    return [0, model.rows[kind][number][place]]


def answer_set_parameter(model, numbers):
    kind = numbers[0]
    number = numbers[1]
    place = numbers[2]
    negative = numbers[3]
    size = numbers[4]
    if not model.settings.has_parameter(kind, number, place):
        return [NOT_THERE]
    value = -size if negative == 1 else size
    if negative > 1 or not model.settings.is_in_range(place, value):
        return [OUTSIDE_LIMITS]
    row = model.rows[kind][number]
    old_value = row[place]
    row[place] = value
    return [0, old_value]


def answer_predict(model, numbers):
    user = numbers[0]
    item = numbers[1]
    if not model.settings.has_pair(user, item):
        return [NOT_THERE]
    return [0, model.prediction(user, item)]


def answer_explain(model, numbers):
    user = numbers[0]
    item = numbers[1]
    if not model.settings.has_pair(user, item):
        return [NOT_THERE]
    parts = model.prediction_parts(user, item)
    return [len(parts)] + parts


def listed(pairs):
    """How many pairs there are, and then the numbers of each."""
    found = [len(pairs)]
    for pair in pairs:
        found.extend(pair)
    return found


def answer_residuals(model, numbers):
    user = numbers[0]
    if not model.settings.has_user(user):
        return [NOT_THERE]
    return listed(model.residuals_of(USER, user))


def answer_mean_error(model, numbers):
    if len(model.all_ratings()) == 0:
        return [NO_SUCH_RATING]
    return [0] + mean_error(model)


def answer_recommend(model, numbers):
    user = numbers[0]
    count = numbers[1]
    if not model.settings.has_user(user):
        return [NOT_THERE]
    return listed(recommended(model, user, count))


def answer_similar(model, numbers):
    kind = numbers[0]
    number = numbers[1]
    count = numbers[2]
    if kind > ITEM:
        return [OUTSIDE_LIMITS]
    if not model.settings.has_row(kind, number):
        return [NOT_THERE]
    found = similar_rows(model, kind, number, count)
    return [len(found)] + found


def answer_fold_in(model, numbers):
    if not are_new_ratings(model.settings, numbers):
        return [OUTSIDE_LIMITS]
    guest = with_newcomer(model, numbers)
    round_count = make_rounds(guest)
    return [round_count] + guest.rows[USER][NEWCOMER]


def answer_recommend_new(model, numbers):
    count = numbers[0]
    ratings = numbers[1:]
    if not are_new_ratings(model.settings, ratings):
        return [OUTSIDE_LIMITS]
    guest = with_newcomer(model, ratings)
    make_rounds(guest)
    return listed(recommended(guest, NEWCOMER, count))


def answer_without(model, numbers):
    user = numbers[0]
    most = numbers[1]
    if not model.settings.has_user(user):
        return [NOT_THERE]
    if most > MOST_SWEEPS:
        return [OUTSIDE_LIMITS]
    model.drop_ratings(user)
    model.begin_again()
    return train(model, most) + [whole_objective(model)]


def answer_status(model, numbers):
    settings = model.settings
    row_counts = settings.row_counts
    rating_count = len(model.all_ratings())
    return [row_counts[USER], row_counts[ITEM], settings.factor_count, rating_count, len(settings.parameters)]


# By the number of the call; create stands apart because it alone needs no model.
MODEL_CALLS = {
    1: answer_set_rating,
    2: answer_clear_rating,
    3: answer_delete_user,
    4: answer_reset,
    5: answer_step,
    6: answer_sweep,
    7: answer_train,
    8: answer_objective,
    9: answer_curve,
    10: answer_certificate,
    11: answer_quadratic,
    12: answer_parameter,
    13: answer_set_parameter,
    14: answer_predict,
    15: answer_explain,
    16: answer_residuals,
    17: answer_mean_error,
    18: answer_recommend,
    19: answer_similar,
    20: answer_fold_in,
    21: answer_recommend_new,
    22: answer_without,
    23: answer_status,
}


def execute(session, call, numbers):
    """Execute one call with its whole numbers; the answer begins with a code below 0 if it fails."""
    if call == CREATE:
        return answer_create(session, numbers)
    if session.model is None:
        return [NO_MODEL]
    answer = MODEL_CALLS[call]
    return answer(session.model, numbers)
