"""A family: its persons by their numbers, and who comes from whom."""


class Family:
    """Of each person the name (a tuple of bytes), the sex, and [] or [father, mother]; nobody descends from themselves.

    oldest_first has all persons, each behind their own parents; youngest_first is the other way round.
    """

    def __init__(self, names, sexes, parents):
        self.names = names
        self.sexes = sexes
        self.parents = parents
        self.oldest_first = parents_before_children(parents)
        self.youngest_first = list(reversed(self.oldest_first))


def parents_before_children(parents):
    """All persons, each time the lowest whose parents are there already; nobody is among their own forebears."""
    placed = {}
    while len(placed) < len(parents):
        placed[lowest_to_place(parents, placed)] = True
    return list(placed)


def lowest_to_place(parents, placed):
    person = 0
    while person in placed or not all([parent in placed for parent in parents[person]]):
        person += 1
    return person


def least_steps_up(parents, person):
    """Each forebear of the person, themselves among them, with the least steps that lead there."""
    steps = {person: 0}
    reached = [person]
    at = 0
    while at < len(reached):
        lower = reached[at]
        for parent in parents[lower]:
            if parent not in steps:
                steps[parent] = steps[lower] + 1
                reached.append(parent)
        at += 1
    return steps


def is_own_forebear(parents, person):
    return any([person in least_steps_up(parents, parent) for parent in parents[person]])
