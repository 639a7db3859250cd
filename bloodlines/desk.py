"""The calls on one object, laid out as numbers, and their answers, laid out likewise."""

from bloodlines.by_chance import drop_by_chance, first_missing
from bloodlines.descent import inbreeding_of, kin_of, states_of
from bloodlines.drops import chance_of, first_contradiction, pairs_that_can_be, worlds_of
from bloodlines.place import Place, may_be_place, pairs_in, pairs_seen
from bloodlines.reading import family_of, fault_of
from bloodlines.relations import paths_up, tie_between

READ = 1
PEOPLE = 2
PERSON = 3
FIND = 4
KIN = 5
INBRED = 6
STATES = 7
TIE = 8
PATHS = 9
PLACE = 10
SEE = 11
SEEN = 12
CAN = 13
FIRST = 14
WORLDS = 15
CHANCE = 16
DROP = 17

LONGEST_TEXT = 16384

TEXT_TOO_LONG = -1
NOBODY_FOUND = -1
NO_SUCH_PLACE = -1
NO_CONTRADICTION = -1
NO_SUCH_PERSON = -2
NONE_AGREES = -3
NO_PLACE = -4
ANSWERS_RUN_OUT = -5
NO_FAMILY = -8


class Desk:
    """The object that the calls are made on: its family, or None, and its place, or None."""

    def __init__(self):
        self.family = None
        self.place = None


class Call:
    """A call's number, its whole numbers, and its row (empty if it takes none)."""

    def __init__(self, number, whole_numbers, row):
        self.number = number
        self.whole_numbers = whole_numbers
        self.row = row


class Answer:
    """An answer's number, its list and its text."""

    def __init__(self, number, listed, text):
        self.number = number
        self.listed = listed
        self.text = text


def number_alone(number):
    return Answer(number, [], [])


def with_list(number, listed):
    return Answer(number, listed, [])


def answer_read(desk, call):
    if len(call.row) > LONGEST_TEXT:
        return number_alone(TEXT_TOO_LONG)
    fault = fault_of(call.row)
    if fault is not None:
        return with_list(fault[0], [fault[1]])
    desk.family = family_of(call.row)
    desk.place = None
    return number_alone(0)


def answer_people(desk, call):
    return number_alone(len(desk.family.names))


def answer_person(desk, call):
    person = call.whole_numbers[0]
    name = desk.family.names[person]
    return Answer(len(name), [desk.family.sexes[person]] + desk.family.parents[person], list(name))


def answer_find(desk, call):
    name = tuple(call.row)
    if name not in desk.family.names:
        return number_alone(NOBODY_FOUND)
    return number_alone(desk.family.names.index(name))


def answer_kin(desk, call):
    return with_list(0, kin_of(desk.family, call.whole_numbers[0], call.whole_numbers[1]))


def answer_inbred(desk, call):
    return with_list(0, inbreeding_of(desk.family, call.whole_numbers[0]))


def answer_states(desk, call):
    told = states_of(desk.family, call.whole_numbers[0], call.whole_numbers[1])
    return with_list(told[1], told[0])


def answer_tie(desk, call):
    tie = tie_between(desk.family, call.whole_numbers[0], call.whole_numbers[1])
    if tie is None:
        return number_alone(0)
    return with_list(1, tie)


def answer_paths(desk, call):
    return number_alone(paths_up(desk.family, call.whole_numbers[0], call.whole_numbers[1]))


def with_pairs(pairs):
    """The answer that tells how many pairs there are, and p and m of each."""
    listed = []
    for pair in pairs:
        listed.extend(pair)
    return with_list(len(pairs), listed)


def answer_place(desk, call):
    by_sex = call.whole_numbers[0]
    if not may_be_place(by_sex, call.row):
        return number_alone(NO_SUCH_PLACE)
    desk.place = Place(by_sex, call.row, {})
    return number_alone(0)


def answer_see(desk, call):
    desk.place.seen[call.whole_numbers[0]] = pairs_in(desk.place, call.row)
    return number_alone(0)


def answer_seen(desk, call):
    return with_pairs(pairs_seen(desk.place, call.whole_numbers[0]))


def answer_can(desk, call):
    return with_pairs(pairs_that_can_be(desk.family, desk.place, call.whole_numbers[0]))


def answer_first(desk, call):
    person = first_contradiction(desk.family, desk.place)
    return number_alone(NO_CONTRADICTION if person is None else person)


def answer_worlds(desk, call):
    return with_list(0, [worlds_of(desk.family, desk.place)])


def answer_chance(desk, call):
    chance = chance_of(desk.family, desk.place, call.whole_numbers[0], call.row)
    if chance is None:
        return number_alone(NONE_AGREES)
    return with_list(0, chance)


def answer_drop(desk, call):
    missing = first_missing(desk.family, desk.place, call.row)
    if missing is not None:
        return with_list(ANSWERS_RUN_OUT, missing)
    return with_pairs(drop_by_chance(desk.family, desk.place, call.row))


ANSWERING = {
    READ: answer_read,
    PEOPLE: answer_people,
    PERSON: answer_person,
    FIND: answer_find,
    KIN: answer_kin,
    INBRED: answer_inbred,
    STATES: answer_states,
    TIE: answer_tie,
    PATHS: answer_paths,
    PLACE: answer_place,
    SEE: answer_see,
    SEEN: answer_seen,
    CAN: answer_can,
    FIRST: answer_first,
    WORLDS: answer_worlds,
    CHANCE: answer_chance,
    DROP: answer_drop,
}

# How many whole numbers follow a call's number, before its row.
WHOLE_NUMBERS = {
    READ: 0, PEOPLE: 0, PERSON: 1, FIND: 0, KIN: 2, INBRED: 1, STATES: 2, TIE: 2, PATHS: 2,
    PLACE: 1, SEE: 1, SEEN: 1, CAN: 1, FIRST: 0, WORLDS: 0, CHANCE: 1, DROP: 0,
}

CALLS_WITH_ROW = (READ, FIND, PLACE, SEE, CHANCE, DROP)

CALLS_AT_PLACE = (SEE, SEEN, CAN, FIRST, WORLDS, CHANCE, DROP)


def persons_of(call):
    """The call's whole numbers that are persons: all but those of place, which says whether it goes by sex."""
    return [] if call.number == PLACE else call.whole_numbers


def refusal_of(desk, call):
    """The number with which the call is refused whatever it asks, or None."""
    if call.number == READ:
        return None
    if desk.family is None:
        return NO_FAMILY
    if any([person >= len(desk.family.names) for person in persons_of(call)]):
        return NO_SUCH_PERSON
    if call.number in CALLS_AT_PLACE and desk.place is None:
        return NO_PLACE
    return None


def answer_to(desk, call):
    refusal = refusal_of(desk, call)
    if refusal is not None:
        return number_alone(refusal)
    return ANSWERING[call.number](desk, call)


def calls_in(numbers):
    """The calls that are laid out one behind another."""
    found = []
    at = 0
    while at < len(numbers):
        number = numbers[at]
        end = at + 1 + WHOLE_NUMBERS[number]
        whole_numbers = numbers[at + 1:end]
        row = []
        if number in CALLS_WITH_ROW:
            row_start = end + 1
            end = row_start + numbers[end]
            row = numbers[row_start:end]
        found.append(Call(number, whole_numbers, row))
        at = end
    return found


def laid_out(answer):
    """The answer's numbers, with how many they are before them."""
    numbers = [answer.number]
    if len(answer.listed) > 0 or len(answer.text) > 0:
        numbers = numbers + [len(answer.listed)] + answer.listed + [len(answer.text)] + answer.text
    return [len(numbers)] + numbers


def answers(calls):
    """The answers to all calls on one new object, each with how many numbers it has before it."""
    desk = Desk()
    given = []
    for call in calls_in(calls):
        given.extend(laid_out(answer_to(desk, call)))
    return given
