"""The distances of uses, and what they tell of the fetches with any number of hooks."""

from handrack.refusals import refuse_without_hook


def distances(uses):
    return [distance_at(uses, place) for place in range(len(uses))]


def distance_at(uses, place):
    others = {}
    for tool in reversed(uses[:place]):
        if tool == uses[place]:
            return len(others)
        others[tool] = True
    return None


def is_fetch(hooks, distance):
    return distance is None or distance >= hooks


def fetches_among(hooks, row):
    return len([distance for distance in row if is_fetch(hooks, distance)])


def fetch_count(hooks, uses):
    refuse_without_hook(hooks)
    return fetches_among(hooks, distances(uses))


def fewest_hooks(uses, most):
    # The distances don't depend on the hooks, so they are reckoned once for all numbers of hooks.
    row = distances(uses)
    # Every distance is below the number of uses, so more hooks than uses spare no further fetch.
    enough = max(1, len(uses))
    for hooks in range(1, enough + 1):
        if fetches_among(hooks, row) <= most:
            return hooks
    return None
