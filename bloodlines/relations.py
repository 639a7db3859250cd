"""How two persons of a family are related: ties and paths."""

from bloodlines.family import least_steps_up


def tie_between(family, a, b):
    """[u, v, how many persons] of the tie of a and b, or None."""
    from_a = least_steps_up(family.parents, a)
    from_b = least_steps_up(family.parents, b)
    # With u + v least, u and v are each the least steps to that person: no longer way up can count.
    ties = [(from_a[person] + from_b[person], from_a[person]) for person in from_a if person in from_b]
    if len(ties) == 0:
        return None
    nearest = min(ties)
    return [nearest[1], nearest[0] - nearest[1], ties.count(nearest)]


def paths_up(family, a, b):
    """How many paths lead from a up to b."""
    paths = [0 for person in family.parents]
    paths[a] = 1
    for person in family.youngest_first:
        for parent in family.parents[person]:
            paths[parent] += paths[person]
    return paths[b]
