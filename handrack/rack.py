"""One use of a tool: what hangs on the rack behind it, and which tool goes back into the chest."""


def used(rack, hooks, tool):
    if tool in rack:
        return ([tool] + [other for other in rack if other != tool], None)
    if len(rack) == hooks:
        return ([tool] + rack[:-1], rack[-1])
    return ([tool] + rack, None)
