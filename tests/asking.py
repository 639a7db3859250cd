"""Calls laid out as numbers, answers taken apart, and small families: what all tests share."""

import random

from bloodlines.desk import answers

EXAMPLE = "ann f\nbob m\ncid m bob ann\ndot f bob ann\neve f cid dot\n"


def numbers_of(text):
    return list(text.encode("latin-1")) if isinstance(text, str) else list(text)


def with_row(number, text):
    row = numbers_of(text)
    return [number, len(row)] + row


def read(text):
    return with_row(1, text)


def people():
    return [2]


def person(i):
    return [3, i]


def find(text):
    return with_row(4, text)


def kin(a, b):
    return [5, a, b]


def inbred(i):
    return [6, i]


def states(a, b):
    return [7, a, b]


def tie(a, b):
    return [8, a, b]


def paths(a, b):
    return [9, a, b]


def taken_apart(numbers):
    """Of each answer (number, list, text as a str); an answer laid out otherwise than told is an error."""
    found = []
    at = 0
    while at < len(numbers):
        end = at + 1 + numbers[at]
        answer = numbers[at + 1:end]
        if len(answer) == 1:
            found.append((answer[0], [], ""))
        else:
            text_at = 2 + answer[1]
            listed = answer[2:text_at]
            text = answer[text_at + 1:]
            if len(listed) != answer[1] or len(text) != answer[text_at] or not (listed or text) or end > len(numbers):
                raise ValueError(f"an answer is not laid out as told: {answer}")
            found.append((answer[0], listed, bytes(text).decode("latin-1")))
        at = end
    return found


def ask(*calls):
    return taken_apart(answers([number for call in calls for number in call]))


def ask_of(text, *calls):
    """The answers to the calls on a family that must be read without fault."""
    found = ask(read(text), *calls)
    if found[0] != (0, [], ""):
        raise ValueError(f"the family is refused: {found[0]}")
    return found[1:]


class SmallFamily:
    """A family with its text; parents[i] is () or (father, mother), and the lines stand in no order."""

    def __init__(self, seed, persons, most_children):
        choose = random.Random(seed)
        sexes = []
        parents = []
        for i in range(persons):
            women = [j for j in range(i) if sexes[j] == 0]
            men = [j for j in range(i) if sexes[j] == 1]
            told = len([pair for pair in parents if pair])
            child = women and men and told < most_children and choose.random() < 0.85
            parents.append((choose.choice(men[-3:]), choose.choice(women[-3:])) if child else ())
            sexes.append(i % 2 if i < 2 else choose.randrange(2))
        rank = list(range(persons))
        choose.shuffle(rank)
        self.sexes = [sexes[rank.index(i)] for i in range(persons)]
        self.parents = [tuple(rank[p] for p in parents[rank.index(i)]) for i in range(persons)]
        self.persons = persons
        self.text = family_text(self.sexes, self.parents)


def family_text(sexes, parents):
    lines = []
    for i, pair in enumerate(parents):
        words = [f"p{i}", "fm"[sexes[i]]] + [f"p{p}" for p in pair]
        lines.append(" ".join(words))
    return "\n".join(lines)


def ladder(persons):
    """Each person's parents are the two before them, so the paths grow like Fibonacci's numbers."""
    sexes = [i % 2 for i in range(persons)]
    parents = [(), ()] + [(i - 1, i - 2) if i % 2 == 0 else (i - 2, i - 1) for i in range(2, persons)]
    return family_text(sexes, parents)


def couples(persons):
    """Sister and brother, again and again: person i's parents are the couple before."""
    sexes = [i % 2 for i in range(persons)]
    parents = [() if i < 2 else (i - i % 2 - 1, i - i % 2 - 2) for i in range(persons)]
    return family_text(sexes, parents)
