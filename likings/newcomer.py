"""A new user, who doesn't belong to the model."""

from likings.settings import USER, is_rating
from likings.training import step

# The number of the new user in a model that with_newcomer makes.
NEWCOMER = 0

MOST_ROUNDS = 100


def are_new_ratings(settings, numbers):
    """Tell whether the numbers are an item and a rating by turns, with strictly increasing items."""
    if len(numbers) % 2 == 1:
        return False
    last_item = -1
    for position in range(0, len(numbers), 2):
        item = numbers[position]
        if item <= last_item or not settings.has_item(item) or not is_rating(numbers[position + 1]):
            return False
        last_item = item
    return True


def with_newcomer(model, numbers):
    """A model of its own in which the new user with these ratings replaces the first user."""
    # A user's row depends on the base, the items and the user's own ratings alone, so nobody is missed here.
    guest = model.twin()
    guest.rows[USER][NEWCOMER] = [0] * len(guest.rows[USER][NEWCOMER])
    guest.drop_ratings(NEWCOMER)
    for position in range(0, len(numbers), 2):
        guest.ratings[NEWCOMER][numbers[position]] = numbers[position + 1]
    return guest


def make_rounds(guest):
    """Make rounds for the new user until one changes nothing; answer their number."""
    round_count = 0
    change_count = 1
    while change_count > 0 and round_count < MOST_ROUNDS:
        round_count += 1
        change_count = 0
        for place in range(guest.settings.factor_count + 1):
            change_count += step(guest, USER, NEWCOMER, place)
    return round_count
