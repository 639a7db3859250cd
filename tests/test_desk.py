"""Promise 6 and the interface: refusals change nothing, and calls and answers are laid out as told."""

import unittest

from bloodlines.desk import answers
from tests.asking import (
    EXAMPLE, ask, ask_of, find, inbred, kin, paths, people, person, read, states, taken_apart, tie)

ALL_BUT_READ = [people(), person(0), find("ann"), kin(0, 0), inbred(0), states(0, 0), tie(0, 0), paths(0, 0)]
REFUSED_TEXTS = ["a", "a f\na f", "a f b c", "b m b a\na f", "".join(f"n{i} f\n" for i in range(65)), "a" * 17000]
LARGEST = 4294967295


class NoFamily(unittest.TestCase):
    def test_every_other_call_is_refused(self):
        for call in ALL_BUT_READ:
            self.assertEqual(ask(call), [(-8, [], "")])
            self.assertEqual(answers(call), [1, -8])

    def test_also_where_the_person_is_none(self):
        calls = [person(LARGEST), kin(9, 9), inbred(9), states(9, 9), tie(9, 9), paths(9, 9), find("")]
        self.assertEqual(ask(*calls), [(-8, [], "")] * len(calls))

    def test_a_refused_read_gives_no_family(self):
        for text in REFUSED_TEXTS:
            found = ask(read(text), *ALL_BUT_READ)
            self.assertLess(found[0][0], 0)
            self.assertEqual(found[1:], [(-8, [], "")] * len(ALL_BUT_READ))

    def test_a_family_of_nobody_is_one(self):
        found = ask_of("", people(), find("a"), find(""), person(0), kin(0, 0), inbred(0), states(0, 0), tie(0, 0),
                       paths(0, 0))
        self.assertEqual([answer[0] for answer in found], [0, -1, -1, -2, -2, -2, -2, -2, -2])


class NoSuchPerson(unittest.TestCase):
    def test_each_call_with_a_person(self):
        for nobody in (5, 6, 64, LARGEST):
            calls = [person(nobody), inbred(nobody)]
            for call in (kin, states, tie, paths):
                calls += [call(nobody, 0), call(0, nobody), call(nobody, nobody)]
            self.assertEqual(ask_of(EXAMPLE, *calls), [(-2, [], "")] * len(calls))

    def test_the_last_person_is_there(self):
        calls = [person(4), inbred(4), kin(4, 0), kin(0, 4), states(4, 4), tie(4, 4), paths(4, 4)]
        self.assertTrue(all(answer[0] >= 0 for answer in ask_of(EXAMPLE, *calls)))


class RefusalsChangeNothing(unittest.TestCase):
    def test_a_refused_read_leaves_the_family(self):
        calls = ALL_BUT_READ + [person(4), find("eve"), kin(4, 4), states(4, 2), tie(4, 1), paths(4, 1)]
        expected = ask_of(EXAMPLE, *calls)
        for text in REFUSED_TEXTS:
            found = ask_of(EXAMPLE, read(text), *calls)
            self.assertLess(found[0][0], 0)
            self.assertEqual(found[1:], expected)

    def test_other_refusals_leave_it_too(self):
        refused = [person(5), kin(5, 0), kin(0, 5), inbred(5), states(0, 5), tie(5, 0), paths(0, 5), find("zoe")]
        found = ask_of(EXAMPLE, *refused, *ALL_BUT_READ)
        self.assertEqual(found[len(refused):], ask_of(EXAMPLE, *ALL_BUT_READ))

    def test_another_family_takes_the_place_of_the_first(self):
        found = ask_of(EXAMPLE, read("zoe f\nyan m\n"), people(), find("ann"), find("zoe"), person(1), person(2))
        self.assertEqual(found, [
            (0, [], ""), (2, [], ""), (-1, [], ""), (0, [], ""), (3, [1], "yan"), (-2, [], "")])
        self.assertEqual(ask_of(EXAMPLE, read(""), people()), [(0, [], ""), (0, [], "")])

    def test_calls_change_nothing_either(self):
        self.assertEqual(ask_of(EXAMPLE, *ALL_BUT_READ, *ALL_BUT_READ), ask_of(EXAMPLE, *ALL_BUT_READ) * 2)


class Layout(unittest.TestCase):
    def given(self, *calls):
        return answers([number for call in calls for number in call])

    def test_read_and_people(self):
        self.assertEqual(answers([1, 3, 97, 32, 102, 2]), [1, 0, 1, 1])
        self.assertEqual(answers([1, 0, 2]), [1, 0, 1, 0])

    def test_faults_have_their_place(self):
        self.assertEqual(answers([1, 2, 97, 98]), [4, -2, 1, 2, 0])
        self.assertEqual(answers([1, 1, 10]), [4, -2, 1, 0, 0])
        self.assertEqual(self.given(read("b m b a\na f")), [4, -6, 1, 0, 0])

    def test_a_text_too_long_has_no_place(self):
        self.assertEqual(self.given(read("a" * 16385)), [1, -1])

    def test_person_and_find(self):
        found = self.given(read(EXAMPLE), person(0), person(1), person(4), find("eve"), find("zoe"))
        self.assertEqual(found, [
            1, 0,
            7, 3, 1, 0, 3, 97, 110, 110,
            7, 3, 1, 1, 3, 98, 111, 98,
            9, 3, 3, 0, 2, 3, 3, 101, 118, 101,
            1, 4,
            1, -1])

    def test_kin_and_inbred(self):
        found = self.given(read(EXAMPLE), kin(2, 3), kin(0, 1), inbred(4), inbred(0))
        self.assertEqual(found, [1, 0, 5, 0, 2, 1, 2, 0, 5, 0, 2, 0, 0, 0, 5, 0, 2, 1, 2, 0, 5, 0, 2, 0, 0, 0])

    def test_states(self):
        found = self.given(read(EXAMPLE), states(2, 3), states(0, 1))
        self.assertEqual(found, [
            1, 0, 12, 2, 9, 0, 0, 0, 0, 0, 0, 1, 2, 1, 0, 12, 0, 9, 0, 0, 0, 0, 0, 0, 0, 0, 1, 0])

    def test_tie_and_paths(self):
        found = self.given(read(EXAMPLE), tie(2, 3), tie(0, 1), paths(4, 0), paths(0, 4))
        self.assertEqual(found, [1, 0, 6, 1, 3, 1, 1, 2, 0, 1, 0, 1, 2, 1, 0])

    def test_refusals_are_their_number_alone(self):
        self.assertEqual(answers([2]), [1, -8])
        self.assertEqual(self.given(read("a f"), kin(0, 1)), [1, 0, 1, -2])


class OneUse(unittest.TestCase):
    def test_what_is_handed_in_stays_as_it_is(self):
        calls = []
        for call in [read(EXAMPLE), read("a f\n\n")] + ALL_BUT_READ + [person(9), read("b m b a\na f")]:
            calls += call
        before = list(calls)
        answers(calls)
        self.assertEqual(calls, before)

    def test_two_uses_know_nothing_of_one_another(self):
        first = answers(read(EXAMPLE))
        self.assertEqual(ask(people()), [(-8, [], "")])
        self.assertEqual(answers(read(EXAMPLE)), first)

    def test_what_is_given_back_is_new_each_time(self):
        calls = read(EXAMPLE) + states(2, 3) + person(4)
        first = answers(calls)
        kept = list(first)
        first[:] = [7] * len(first)
        self.assertEqual(answers(calls), kept)

    def test_whole_numbers_in_a_list_alone(self):
        calls = read(EXAMPLE)
        for call in ALL_BUT_READ + [person(1), person(4), tie(0, 1), kin(8, 8)]:
            calls += call
        found = answers(calls)
        self.assertIs(type(found), list)
        self.assertEqual({type(number) for number in found}, {int})

    def test_400_calls(self):
        calls = read(EXAMPLE)
        for turn in range(399):
            calls += [kin(2, 3), states(2, 3), tie(2, 3), person(4)][turn % 4]
        found = taken_apart(answers(calls))
        self.assertEqual(len(found), 400)
        self.assertEqual(found[1:5] * 99, found[1:397])

    def test_as_many_numbers_as_may_be_handed_in(self):
        calls = read("a f\n" + "b" * 13983) + read("a f\n") + find("a" * 17000) + find("a")
        self.assertEqual(len(calls), 31000)
        self.assertEqual(answers(calls), [4, -2, 1, 19, 0, 1, 0, 1, -1, 1, 0])


if __name__ == "__main__":
    unittest.main()
