"""Steps, sweeps and training."""

from likings.objective import quadratic_of, whole_objective


def stepped_value(model, kind, number, place):
    """The value that a step gives the parameter."""
    present = model.rows[kind][number][place]
    form = quadratic_of(model, kind, number, place)
    if form.curvature == 0:
        return present
    settings = model.settings
    best = max(settings.lowest(place), min(settings.highest(place), form.nearest()))
    # A value that is only as good as the present one would let training go round in circles.
    if form.height(best) < form.height(present):
        return best
    return present


def step(model, kind, number, place):
    """Make a step; answer 1 if it changes the parameter, otherwise 0."""
    row = model.rows[kind][number]
    value = stepped_value(model, kind, number, place)
    if value == row[place]:
        return 0
    row[place] = value
    return 1


def sweep(model):
    """Make a step for each parameter; answer how many of them change."""
    change_count = 0
    for kind, number, place in model.settings.parameters:
        change_count += step(model, kind, number, place)
    return change_count


def train(model, most):
    """Make sweeps until one changes nothing; answer their number, and 1 if training has converged."""
    sweep_count = 0
    while sweep_count < most:
        sweep_count += 1
        if sweep(model) == 0:
            return [sweep_count, 1]
    return [sweep_count, 0]


def coming_objectives(model, count):
    """The objective after each of so many sweeps; the model stays as it is."""
    trial = model.twin()
    found = []
    for number in range(count):
        sweep(trial)
        found.append(whole_objective(trial))
    return found


def first_improvable(model):
    """Kind, number and place of the first parameter that a step would change; empty if there is none."""
    for kind, number, place in model.settings.parameters:
        if stepped_value(model, kind, number, place) != model.rows[kind][number][place]:
            return [kind, number, place]
    return []
