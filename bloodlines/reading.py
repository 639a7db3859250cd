"""From a text to a family, or to the text's first fault."""

from bloodlines.family import Family, is_own_forebear
from bloodlines.wording import MAN, WOMAN, lines_of, spoiled_at

MOST_PERSONS = 64

NO_SUCH_TEXT = -2
ONE_TOO_MANY = -3
NAME_TAKEN = -4
WRONG_PARENT = -5
OWN_FOREBEAR = -6


def fault_of(text):
    """The number and the place of the text's first fault, or None."""
    place = spoiled_at(text)
    if place is not None:
        return (NO_SUCH_TEXT, place)
    lines = lines_of(text)
    fault = person_fault(lines)
    if fault is None:
        fault = parent_fault(lines)
    if fault is None:
        fault = forebear_fault(lines)
    return fault


def person_fault(lines):
    earlier = {}
    for number, line in enumerate(lines):
        if number == MOST_PERSONS:
            return (ONE_TOO_MANY, line.name.place)
        if line.name.signs in earlier:
            return (NAME_TAKEN, line.name.place)
        earlier[line.name.signs] = True
    return None


def parent_fault(lines):
    sexes = {}
    for line in lines:
        sexes[line.name.signs] = line.sex
    for line in lines:
        for word, sex in zip(line.parents, (MAN, WOMAN)):
            if sexes.get(word.signs) != sex:
                return (WRONG_PARENT, word.place)
    return None


def forebear_fault(lines):
    parents = parents_by_number(lines)
    for number, line in enumerate(lines):
        if is_own_forebear(parents, number):
            return (OWN_FOREBEAR, line.name.place)
    return None


def parents_by_number(lines):
    """Of each line [] or [father, mother]; every parent's name is some line's."""
    numbers = {}
    for number, line in enumerate(lines):
        numbers[line.name.signs] = number
    parents = []
    for line in lines:
        parents.append([numbers[word.signs] for word in line.parents])
    return parents


def family_of(text):
    """The family of a text without fault."""
    lines = lines_of(text)
    names = [line.name.signs for line in lines]
    sexes = [line.sex for line in lines]
    return Family(names, sexes, parents_by_number(lines))
