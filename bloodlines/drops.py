"""Drops that agree with what's been seen: what can be, the first contradiction, worlds and chances.

Instead of going through the drops one by one, persons are taken one by one, parents first. A row tells the pairs,
as (person, pair), of those taken who still matter: they have children to come, or it's them who are asked for.
Each row has its sum, over all drops (or worlds) of the persons taken so far that agree.
"""

from bloodlines.place import has_one_gene, pairs_in, place_seen_up_to


def pairs_without_parents(place, sex):
    """Each pair that such a person may have, with its weight."""
    weights = {}
    for m, weight in enumerate(place.weights):
        if has_one_gene(place, sex):
            weights[(m, m)] = weight
        else:
            for p, other_weight in enumerate(place.weights):
                weights[(p, m)] = weight * other_weight
    return weights


def pairs_from_parents(place, sex, father_pair, mother_pair):
    """Each pair that such parents' child may have, with the number of ways."""
    ways = {}
    # Who has one gene has it twice in the pair, so ways that differ in what says nothing count apart.
    for p in father_pair:
        for m in mother_pair:
            pair = (m, m) if has_one_gene(place, sex) else (p, m)
            ways[pair] = ways.get(pair, 0) + 1
    return ways


def pairs_behind(family, place, row, person):
    """Each pair that the person may have behind the row, with what it counts."""
    sex = family.sexes[person]
    parents = family.parents[person]
    if len(parents) == 0:
        return pairs_without_parents(place, sex)
    told = dict(row)
    return pairs_from_parents(place, sex, told[parents[0]], told[parents[1]])


def agrees(place, person, pair):
    return person not in place.seen or pair in place.seen[person]


def sums_with(family, place, sums, person, each_once):
    """The sums of the rows with the person's pair behind them."""
    longer_sums = {}
    for row, whole in sums.items():
        for pair, count in pairs_behind(family, place, row, person).items():
            if agrees(place, person, pair):
                longer_sums[row + ((person, pair),)] = whole if each_once else whole * count
    return longer_sums


def sums_without(sums, persons):
    """The sums of the rows in which these persons' pairs don't stand any longer."""
    shorter_sums = {}
    for row, whole in sums.items():
        shorter = tuple([told for told in row if told[0] not in persons])
        shorter_sums[shorter] = shorter_sums.get(shorter, 0) + whole
    return shorter_sums


def last_needing(family):
    """Of each person the one behind whom their pair doesn't matter: their last child, or they themselves."""
    last = {}
    for person in family.oldest_first:
        last[person] = person
        for parent in family.parents[person]:
            last[parent] = person
    return last


def sums_over_drops(family, place, asked, each_once):
    """Of all drops that agree the sums of weights, by rows of the asked person's pair (empty rows, if that's None).

    With each_once it's the number of worlds instead.
    """
    last = last_needing(family)
    sums = {(): 1}
    for person in family.oldest_first:
        sums = sums_with(family, place, sums, person, each_once)
        nearest = family.parents[person] + [person]
        sums = sums_without(sums, [other for other in nearest if last[other] == person and other != asked])
    return sums


def sums_by_pair(family, place, person):
    """Each pair that the person has in drops that agree, with the sum of these drops' weights."""
    by_pair = {}
    for row, whole in sums_over_drops(family, place, person, False).items():
        by_pair[row[0][1]] = whole
    return by_pair


def pairs_that_can_be(family, place, person):
    return sorted(sums_by_pair(family, place, person))


def worlds_of(family, place):
    """How many different rows of everybody's pairs there are among drops that agree."""
    return sum(sums_over_drops(family, place, None, True).values())


def first_contradiction(family, place):
    """The lowest person with whom, and those before, no drop agrees; None if some drop agrees with all."""
    if worlds_of(family, place) > 0:
        return None
    lowest = 0
    highest = len(family.parents) - 1
    # With what's been seen of one person more there are never more worlds: so half of the persons are left each time.
    while lowest < highest:
        middle = (lowest + highest) // 2
        if worlds_of(family, place_seen_up_to(place, middle)) > 0:
            lowest = middle + 1
        else:
            highest = middle
    return lowest


def in_lowest_terms(upper, lower):
    divisor = lower
    rest = upper
    while rest > 0:
        shorter = divisor % rest
        divisor = rest
        rest = shorter
    return [upper // divisor, lower // divisor]


def chance_of(family, place, person, numbers):
    """[upper, lower] of the chance that the person's pair is among those told by the numbers, None if none agrees."""
    by_pair = sums_by_pair(family, place, person)
    whole = sum(by_pair.values())
    if whole == 0:
        return None
    part = sum([by_pair.get(pair, 0) for pair in pairs_in(place, numbers)])
    return in_lowest_terms(part, whole)
