"""How genes come down: kin, inbreeding and states, counted over all ways.

A gene is a number: twice the person's, and for the mother's gene one more.
Instead of going through all 4^c ways, the genes that are asked for are followed up to those of persons without
parents told. What is counted on the way are the ways, so each number is that of all 4^c of them.
"""


def genes_of(person):
    return [2 * person, 2 * person + 1]


def with_origins(row, child, father_gene, mother_gene):
    """The row of genes with the child's two replaced by those that they came from."""
    origins = {2 * child: father_gene, 2 * child + 1: mother_gene}
    return tuple([origins.get(gene, gene) for gene in row])


def followed_past(counts, child, parents):
    """Each row of genes with its count, the child's genes followed up in the four ways that there are."""
    higher_counts = {}
    for row, count in counts.items():
        for father_gene in genes_of(parents[0]):
            for mother_gene in genes_of(parents[1]):
                higher = with_origins(row, child, father_gene, mother_gene)
                higher_counts[higher] = higher_counts.get(higher, 0) + count
    return higher_counts


def followed_up(family, rows):
    """The rows of first genes that these different rows of genes come from, each with the number of ways."""
    counts = {}
    for row in rows:
        counts[row] = 1
    for person in family.youngest_first:
        if len(family.parents[person]) > 0:
            counts = followed_past(counts, person, family.parents[person])
    return counts


def power_of_all_ways(family):
    """The e for which there are 2^e ways."""
    return 2 * len([pair for pair in family.parents if len(pair) > 0])


def least_power(numbers, e):
    """[numbers, e] over the least power of two, 2^e, for which all of them are whole."""
    while e > 0 and all([number % 2 == 0 for number in numbers]):
        numbers = [number // 2 for number in numbers]
        e -= 1
    return [numbers, e]


def kin_of(family, a, b):
    """[x, e]: the kin of a and b is x / 2^e in lowest terms."""
    rows = []
    for a_gene in genes_of(a):
        for b_gene in genes_of(b):
            rows.append((a_gene, b_gene))
    same = sum([count for row, count in followed_up(family, rows).items() if row[0] == row[1]])
    told = least_power([same], power_of_all_ways(family) + 2)
    return [told[0][0], told[1]]


def inbreeding_of(family, person):
    """[x, e]: the kin of the person's parents, 0 without parents told."""
    parents = family.parents[person]
    if len(parents) == 0:
        return [0, 0]
    return kin_of(family, parents[0], parents[1])


def state_of(row):
    """The state, 1 to 9, of a's two genes and then b's two."""
    of_a = row[:2]
    of_b = row[2:]
    if of_a[0] == of_a[1] and of_b[0] == of_b[1]:
        return 1 if of_a == of_b else 2
    if of_a[0] == of_a[1]:
        return 3 if of_a[0] in of_b else 4
    if of_b[0] == of_b[1]:
        return 5 if of_b[0] in of_a else 6
    return 9 - len([gene for gene in of_a if gene in of_b])


def states_of(family, a, b):
    """[nine numbers, e]: the parts of the states over 2^e, the least for which all nine are whole."""
    numbers = [0 for state in range(9)]
    row = tuple(genes_of(a) + genes_of(b))
    for higher, count in followed_up(family, [row]).items():
        numbers[state_of(higher) - 1] += count
    return least_power(numbers, power_of_all_ways(family))
