"""Calls laid out as numbers, answers taken apart, small families and their drops: what all tests share."""

import itertools
import random

from bloodlines.desk import answers

EXAMPLE = "ann f\nbob m\ncid m bob ann\ndot f bob ann\neve f cid dot\n"


def numbers_of(text):
    return list(text.encode("latin-1")) if isinstance(text, str) else list(text)


def with_row(number, text):
    row = numbers_of(text)
    return [number, len(row)] + row


def read(text):
    return with_row(1, text)


def people():
    return [2]


def person(i):
    return [3, i]


def find(text):
    return with_row(4, text)


def kin(a, b):
    return [5, a, b]


def inbred(i):
    return [6, i]


def states(a, b):
    return [7, a, b]


def tie(a, b):
    return [8, a, b]


def paths(a, b):
    return [9, a, b]


def place(by_sex, weights):
    return [10, by_sex, len(weights)] + list(weights)


def see(i, *pairs):
    return [11, i] + with_pairs(pairs)


def seen(i):
    return [12, i]


def can(i):
    return [13, i]


def first():
    return [14]


def worlds():
    return [15]


def chance(i, *pairs):
    return [16, i] + with_pairs(pairs)


def drop(row):
    return [17, len(row)] + list(row)


def with_pairs(pairs):
    return [2 * len(pairs)] + flat(pairs)


def flat(pairs):
    return [number for pair in pairs for number in pair]


def taken_apart(numbers):
    """Of each answer (number, list, text as a str); an answer laid out otherwise than told is an error."""
    found = []
    at = 0
    while at < len(numbers):
        end = at + 1 + numbers[at]
        answer = numbers[at + 1:end]
        if len(answer) == 1:
            found.append((answer[0], [], ""))
        else:
            text_at = 2 + answer[1]
            listed = answer[2:text_at]
            text = answer[text_at + 1:]
            if len(listed) != answer[1] or len(text) != answer[text_at] or not (listed or text) or end > len(numbers):
                raise ValueError(f"an answer is not laid out as told: {answer}")
            found.append((answer[0], listed, bytes(text).decode("latin-1")))
        at = end
    return found


def ask(*calls):
    return taken_apart(answers([number for call in calls for number in call]))


def ask_of(text, *calls):
    """The answers to the calls on a family that must be read without fault."""
    found = ask(read(text), *calls)
    if found[0] != (0, [], ""):
        raise ValueError(f"the family is refused: {found[0]}")
    return found[1:]


class SmallFamily:
    """A family with its text; parents[i] is () or (father, mother), and the lines stand in no order."""

    def __init__(self, seed, persons, most_children):
        choose = random.Random(seed)
        sexes = []
        parents = []
        for i in range(persons):
            women = [j for j in range(i) if sexes[j] == 0]
            men = [j for j in range(i) if sexes[j] == 1]
            told = len([pair for pair in parents if pair])
            child = women and men and told < most_children and choose.random() < 0.85
            parents.append((choose.choice(men[-3:]), choose.choice(women[-3:])) if child else ())
            sexes.append(i % 2 if i < 2 else choose.randrange(2))
        rank = list(range(persons))
        choose.shuffle(rank)
        self.sexes = [sexes[rank.index(i)] for i in range(persons)]
        self.parents = [tuple(rank[p] for p in parents[rank.index(i)]) for i in range(persons)]
        self.persons = persons
        self.text = family_text(self.sexes, self.parents)


def family_text(sexes, parents):
    lines = []
    for i, pair in enumerate(parents):
        words = [f"p{i}", "fm"[sexes[i]]] + [f"p{p}" for p in pair]
        lines.append(" ".join(words))
    return "\n".join(lines)


def parents_first(parents):
    """All persons, as in a drop by chance: each time the lowest whose parents have come, or who has none."""
    order = []
    while len(order) < len(parents):
        order.append(min(i for i, pair in enumerate(parents) if i not in order and all(p in order for p in pair)))
    return order


def all_drops(sexes, parents, by_sex, weights):
    """(everybody's pair, the weight) of every drop, one by one, straight by the document's words."""
    order = parents_first(parents)
    children = [i for i in order if parents[i]]
    genes = []
    for i in order:
        if not parents[i]:
            genes += [(i, "one")] if by_sex and sexes[i] == 1 else [(i, "father's"), (i, "mother's")]
    ways = list(itertools.product(itertools.product((0, 1), repeat=2), repeat=len(children)))
    for kinds in itertools.product(range(len(weights)), repeat=len(genes)):
        kind_of = dict(zip(genes, kinds))
        weight = 1
        for kind in kinds:
            weight *= weights[kind]
        for way in ways:
            choice = dict(zip(children, way))
            pairs = {}
            for i in order:
                if (i, "one") in kind_of:
                    pairs[i] = (kind_of[i, "one"],) * 2
                elif not parents[i]:
                    pairs[i] = (kind_of[i, "father's"], kind_of[i, "mother's"])
                else:
                    from_father = pairs[parents[i][0]][choice[i][0]]
                    from_mother = pairs[parents[i][1]][choice[i][1]]
                    pairs[i] = (from_mother if by_sex and sexes[i] == 1 else from_father, from_mother)
            yield tuple(pairs[i] for i in range(len(parents))), weight


class SeenFamily:
    """A small family with a place and what's been seen there: seen[i] is a list of pairs, for some i.

    Every third has few pairs, drawn at will, so often none agrees; the others have those of some drop among them.
    The calls on it are not heavier than may be asked.
    """

    def __init__(self, seed):
        choose = random.Random(seed)
        self.by_sex = choose.randrange(2)
        kinds = choose.choice((1, 2, 2, 2, 3, 3, 4))
        persons = choose.choice((1, 2, 3, 3, 4, 4, 5, 5, 5, 6))
        family = SmallFamily(seed, persons, choose.randrange(5))
        while weight_of_calls(family.parents, kinds) > 6000:
            persons -= 1
            family = SmallFamily(seed, persons, 3)
        self.persons = persons
        self.sexes = family.sexes
        self.parents = family.parents
        self.text = family.text
        self.weights = [choose.randrange(1, 6) for kind in range(kinds)]
        self.pairs = list(itertools.product(range(kinds), repeat=2))
        self.drops = list(all_drops(self.sexes, self.parents, self.by_sex, self.weights))
        some = choose.choice(self.drops)[0]
        self.seen = {}
        for i in range(persons):
            if seed % 3 == 0:
                self.seen[i] = choose.sample(self.pairs, min(len(self.pairs), choose.randrange(1, 4)))
            elif choose.random() < 0.6:
                self.seen[i] = choose.sample(self.pairs, choose.randrange(len(self.pairs) + 1)) + [some[i]]
        self.calls = [read(self.text), place(self.by_sex, self.weights)]
        self.calls += [see(i, *pairs) for i, pairs in self.seen.items()]

    def agreeing(self, last=64):
        """The drops that agree with what's been seen of persons 0 to last."""
        told = [(i, pairs) for i, pairs in self.seen.items() if i <= last]
        return [told_drop for told_drop in self.drops if all(told_drop[0][i] in pairs for i, pairs in told)]

    def ask(self, *calls):
        return ask(*self.calls, *calls)[len(self.calls):]


def weight_of_calls(parents, kinds):
    """What can, first, worlds and chance weigh."""
    children = len([pair for pair in parents if pair])
    return 4 ** children * kinds ** (2 * (len(parents) - children)) * len(parents)


def ladder(persons):
    """Each person's parents are the two before them, so the paths grow like Fibonacci's numbers."""
    sexes = [i % 2 for i in range(persons)]
    parents = [(), ()] + [(i - 1, i - 2) if i % 2 == 0 else (i - 2, i - 1) for i in range(2, persons)]
    return family_text(sexes, parents)


def couples(persons):
    """Sister and brother, again and again: person i's parents are the couple before."""
    sexes = [i % 2 for i in range(persons)]
    parents = [() if i < 2 else (i - i % 2 - 1, i - i % 2 - 2) for i in range(persons)]
    return family_text(sexes, parents)
