"""A day at the bench: what each use of a row does to a rack on which nothing hangs at first."""

from handrack.rack import used
from handrack.refusals import refuse_without_hook


def racks(hooks, uses):
    refuse_without_hook(hooks)
    rack = []
    behind = []
    for tool in uses:
        rack = used(rack, hooks, tool)[0]
        behind.append(rack)
    return behind


def racks_ahead(hooks, uses):
    # What hangs behind one use is what hangs ahead of the following one.
    return ([[]] + racks(hooks, uses))[:-1]


def goings(hooks, uses):
    return [used(rack, hooks, tool)[1] for rack, tool in zip(racks_ahead(hooks, uses), uses)]


def fetched(hooks, uses):
    return [tool not in rack for rack, tool in zip(racks_ahead(hooks, uses), uses)]
