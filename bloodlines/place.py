"""One place: its kinds of genes and their weights, whether it goes by sex, and what's been seen there."""

from bloodlines.wording import MAN

BY_SEX = 1

MOST_KINDS = 8
MOST_WEIGHT = 255


class Place:
    """by_sex is 0 or BY_SEX; weights has one number for each kind.

    seen has, for each person of whom something has been seen, these pairs in order; they may be none.
    """

    def __init__(self, by_sex, weights, seen):
        self.by_sex = by_sex
        self.weights = weights
        self.seen = seen


def may_be_place(by_sex, weights):
    if by_sex > BY_SEX or not 1 <= len(weights) <= MOST_KINDS:
        return False
    return min(weights) >= 1 and sum(weights) <= MOST_WEIGHT


def has_one_gene(place, sex):
    return place.by_sex == BY_SEX and sex == MAN


def pairs_in(place, numbers):
    """The pairs that the numbers tell, p and m of each, in order and each once; none of kinds that there aren't."""
    kinds = len(place.weights)
    pairs = {}
    for at in range(0, len(numbers), 2):
        pair = tuple(numbers[at:at + 2])
        if max(pair) < kinds:
            pairs[pair] = True
    return sorted(pairs)


def all_pairs(place):
    kinds = len(place.weights)
    pairs = []
    for p in range(kinds):
        pairs.extend([(p, m) for m in range(kinds)])
    return pairs


def pairs_seen(place, person):
    return place.seen[person] if person in place.seen else all_pairs(place)


def place_seen_up_to(place, last):
    """The same place, as if nothing had been seen of persons behind the last."""
    seen = {}
    for person, pairs in place.seen.items():
        if person <= last:
            seen[person] = pairs
    return Place(place.by_sex, place.weights, seen)
