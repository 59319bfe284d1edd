"""What a model advises: items for a user, and rows that are similar to a row."""

from likings.state import NO_RATING


def recommended(model, user, count):
    """Pairs of an item that the user hasn't rated and its prediction, the best ones first, at most so many."""
    pairs = []
    for item, value in enumerate(model.ratings[user]):
        if value == NO_RATING:
            pairs.append((item, model.prediction(user, item)))
    return sorted(pairs, key=lambda pair: (-pair[1], pair[0]))[:count]


def factor_product(row, other):
    """The sum of the products of the factors of both rows."""
    return sum([row[place] * other[place] for place in range(1, len(row))])


def similar_rows(model, kind, number, count):
    """The numbers of the similar rows, the most similar ones first, at most so many."""
    rows = model.rows[kind]
    own = rows[number]
    chosen = [other for other in range(len(rows)) if other != number and factor_product(own, rows[other]) > 0]
    common = 1
    for other in chosen:
        common *= factor_product(rows[other], rows[other])

    def closeness(other):
        # The square of the cosine, but for what all rows share: times the sum of squares of the given row,
        # and times a common multiple of the others' sums, so that the comparison is one of whole numbers.
        product = factor_product(own, rows[other])
        return product * product * (common // factor_product(rows[other], rows[other]))

    return sorted(chosen, key=lambda other: (-closeness(other), other))[:count]
