"""A family: its persons by their numbers, and who comes from whom."""


class Family:
    """Of each person the name (a tuple of bytes), the sex, and [] or [father, mother]; nobody descends from themselves.

    youngest_first has all persons, each before their own parents.
    """

    def __init__(self, names, sexes, parents):
        self.names = names
        self.sexes = sexes
        self.parents = parents
        self.youngest_first = children_before_parents(parents)


def children_before_parents(parents):
    """All persons in such an order, if nobody is among their own forebears."""
    placed = {}
    while len(placed) < len(parents):
        for person, pair in enumerate(parents):
            if all([parent in placed for parent in pair]):
                placed[person] = True
    return list(reversed(list(placed)))


def least_steps_up(parents, person):
    """Each forebear of the person, themselves among them, with the least steps that lead there."""
    steps = {person: 0}
    reached = [person]
    at = 0
    while at < len(reached):
        lower = reached[at]
        for parent in parents[lower]:
            if parent not in steps:
                steps[parent] = steps[lower] + 1
                reached.append(parent)
        at += 1
    return steps


def is_own_forebear(parents, person):
    return any([person in least_steps_up(parents, parent) for parent in parents[person]])
