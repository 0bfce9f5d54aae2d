"""Layers, gaps and valleys of rows."""


def layer(row, k):
    """Return layer k of a row: 1 for each tick with at least k, and otherwise 0."""
    return tuple([1 if x >= k else 0 for x in row])


def gaps(row, k):
    """Return the ascending list of the gaps of layer k of a row."""
    on = [tick for tick, x in enumerate(row) if x >= k]
    return [(ahead + 1, behind - ahead - 1) for ahead, behind in zip(on, on[1:]) if behind - ahead > 1]


def valleys(needs):
    """Return the ascending list of the valleys of a need row."""
    found = []
    # The ticks from which one sees over all later ones: their needs fall strictly.
    seeing = []
    for tick, need in enumerate(needs):
        while seeing and needs[seeing[-1]] < need:
            low = needs[seeing.pop()]
            if seeing:
                ahead = seeing[-1]
                found.append((ahead + 1, tick - ahead - 1, low, min(needs[ahead], need)))
        if seeing and needs[seeing[-1]] == need:
            seeing.pop()
        seeing.append(tick)
    return sorted(found)
