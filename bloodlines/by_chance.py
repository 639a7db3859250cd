"""A drop by chance: everybody's pair by a row of answers, whatever has been seen."""

from bloodlines.place import BY_SEX, has_one_gene


def divisors_for(family, place, person):
    """Of each answer that the person's pair needs, the number by whose rest it counts."""
    has_parents = len(family.parents[person]) > 0
    divisor = 2 if has_parents else sum(place.weights)
    if has_one_gene(place, family.sexes[person]):
        return [divisor]
    if has_parents and place.by_sex == BY_SEX:
        return [divisor]
    return [divisor, divisor]


def first_missing(family, place, row):
    """[whose pair is next, the divisor] of the first answer that the row lacks, or None."""
    needed = []
    for person in family.oldest_first:
        for divisor in divisors_for(family, place, person):
            needed.append([person, divisor])
    if len(row) < len(needed):
        return needed[len(row)]
    return None


def kind_by(place, answer):
    """The least kind whose weight, with those of all lesser kinds, is more than the answer's rest."""
    rest = answer % sum(place.weights)
    kind = 0
    while rest >= place.weights[kind]:
        rest -= place.weights[kind]
        kind += 1
    return kind


def pair_by(family, place, pairs, person, taken):
    """The person's pair by the one or two answers taken for it."""
    parents = family.parents[person]
    if len(parents) == 0:
        # Of a single answer, for one gene, first and last are the same.
        return (kind_by(place, taken[0]), kind_by(place, taken[-1]))
    m = pairs[parents[1]][taken[-1] % 2]
    if has_one_gene(place, family.sexes[person]):
        return (m, m)
    # By sex the father's side has no answer, but both of his pair are his one gene: any answer points to it.
    return (pairs[parents[0]][taken[0] % 2], m)


def drop_by_chance(family, place, row):
    """Everybody's pair, by a row that lacks no answer."""
    pairs = {}
    start = 0
    for person in family.oldest_first:
        end = start + len(divisors_for(family, place, person))
        pairs[person] = pair_by(family, place, pairs, person, row[start:end])
        start = end
    return [pairs[person] for person in range(len(pairs))]
