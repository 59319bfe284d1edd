"""The first parameters, with which training begins."""

from likings.settings import BIAS_PLACE, ITEM, UNIT, USER

HASH_START = 14695981039346656037
HASH_FACTOR = 1099511628211
HASH_MODULUS = 18446744073709551616

LARGEST_FIRST_FACTOR = 64


def hashed(numbers):
    """The 64-bit FNV-1a hash of the numbers, four bytes each, the lowest byte first."""
    result = HASH_START
    for number in numbers:
        for shift in (0, 8, 16, 24):
            result = (result ^ ((number >> shift) & 255)) * HASH_FACTOR % HASH_MODULUS
    return result


def first_value(settings, kind, number, place):
    """The first value of a parameter other than the base."""
    if place == BIAS_PLACE:
        return 0
    mixed = hashed((settings.seed, kind, number, place)) // 65536
    size = min(settings.limit, LARGEST_FIRST_FACTOR)
    if settings.nonnegative == 1:
        return mixed % (size + 1)
    return mixed % (2 * size + 1) - size


def first_rows(settings):
    """The first rows: those of the users, then those of the items."""
    rows = ([], [])
    for kind in (USER, ITEM):
        for number in range(settings.row_counts[kind]):
            row = [first_value(settings, kind, number, place) for place in range(settings.factor_count + 1)]
            rows[kind].append(row)
    return rows


def first_base(values):
    """The first base for these ratings: their mean, rounded down."""
    if len(values) == 0:
        return 0
    return UNIT * sum(values) // len(values)
