"""The calls on one object, laid out as numbers, and their answers, laid out likewise."""

from bloodlines.descent import inbreeding_of, kin_of, states_of
from bloodlines.reading import family_of, fault_of
from bloodlines.relations import paths_up, tie_between

READ = 1
PEOPLE = 2
PERSON = 3
FIND = 4
KIN = 5
INBRED = 6
STATES = 7
TIE = 8
PATHS = 9

LONGEST_TEXT = 16384

TEXT_TOO_LONG = -1
NOBODY_FOUND = -1
NO_SUCH_PERSON = -2
NO_FAMILY = -8


class Desk:
    """The object that the calls are made on: its family, or None."""

    def __init__(self):
        self.family = None


class Call:
    """A call's number, its whole numbers (each of them a person), and its row (empty if it takes none)."""

    def __init__(self, number, persons, row):
        self.number = number
        self.persons = persons
        self.row = row


class Answer:
    """An answer's number, its list and its text."""

    def __init__(self, number, listed, text):
        self.number = number
        self.listed = listed
        self.text = text


def number_alone(number):
    return Answer(number, [], [])


def with_list(number, listed):
    return Answer(number, listed, [])


def answer_read(desk, call):
    if len(call.row) > LONGEST_TEXT:
        return number_alone(TEXT_TOO_LONG)
    fault = fault_of(call.row)
    if fault is not None:
        return with_list(fault[0], [fault[1]])
    desk.family = family_of(call.row)
    return number_alone(0)


def answer_people(desk, call):
    return number_alone(len(desk.family.names))


def answer_person(desk, call):
    person = call.persons[0]
    name = desk.family.names[person]
    return Answer(len(name), [desk.family.sexes[person]] + desk.family.parents[person], list(name))


def answer_find(desk, call):
    name = tuple(call.row)
    if name not in desk.family.names:
        return number_alone(NOBODY_FOUND)
    return number_alone(desk.family.names.index(name))


def answer_kin(desk, call):
    return with_list(0, kin_of(desk.family, call.persons[0], call.persons[1]))


def answer_inbred(desk, call):
    return with_list(0, inbreeding_of(desk.family, call.persons[0]))


def answer_states(desk, call):
    told = states_of(desk.family, call.persons[0], call.persons[1])
    return with_list(told[1], told[0])


def answer_tie(desk, call):
    tie = tie_between(desk.family, call.persons[0], call.persons[1])
    if tie is None:
        return number_alone(0)
    return with_list(1, tie)


def answer_paths(desk, call):
    return number_alone(paths_up(desk.family, call.persons[0], call.persons[1]))


ANSWERING = {
    READ: answer_read,
    PEOPLE: answer_people,
    PERSON: answer_person,
    FIND: answer_find,
    KIN: answer_kin,
    INBRED: answer_inbred,
    STATES: answer_states,
    TIE: answer_tie,
    PATHS: answer_paths,
}

# How many whole numbers follow a call's number, before its row.
WHOLE_NUMBERS = {READ: 0, PEOPLE: 0, PERSON: 1, FIND: 0, KIN: 2, INBRED: 1, STATES: 2, TIE: 2, PATHS: 2}

CALLS_WITH_ROW = (READ, FIND)


def refusal_of(desk, call):
    """The number with which the call is refused whatever it asks, or None."""
    if call.number == READ:
        return None
    if desk.family is None:
        return NO_FAMILY
    for person in call.persons:
        if person >= len(desk.family.names):
            return NO_SUCH_PERSON
    return None


def answer_to(desk, call):
    refusal = refusal_of(desk, call)
    if refusal is not None:
        return number_alone(refusal)
    return ANSWERING[call.number](desk, call)


def calls_in(numbers):
    """The calls that are laid out one behind another."""
    found = []
    at = 0
    while at < len(numbers):
        number = numbers[at]
        end = at + 1 + WHOLE_NUMBERS[number]
        persons = numbers[at + 1:end]
        row = []
        if number in CALLS_WITH_ROW:
            row_start = end + 1
            end = row_start + numbers[end]
            row = numbers[row_start:end]
        found.append(Call(number, persons, row))
        at = end
    return found


def laid_out(answer):
    """The answer's numbers, with how many they are before them."""
    numbers = [answer.number]
    if len(answer.listed) > 0 or len(answer.text) > 0:
        numbers = numbers + [len(answer.listed)] + answer.listed + [len(answer.text)] + answer.text
    return [len(numbers)] + numbers


def answers(calls):
    """The answers to all calls on one new object, each with how many numbers it has before it."""
    desk = Desk()
    given = []
    for call in calls_in(calls):
        given.extend(laid_out(answer_to(desk, call)))
    return given
