"""Promise 6 and the interface: refusals change nothing, and calls and answers are laid out as told."""

import unittest

from bloodlines.desk import answers
from tests.asking import (
    EXAMPLE, ask, ask_of, can, chance, drop, family_text, find, first, inbred, kin, paths, people, person, place, read,
    see, seen, states, taken_apart, tie, weight_of_calls, worlds)

OF_THE_FAMILY = [people(), person(0), find("ann"), kin(0, 0), inbred(0), states(0, 0), tie(0, 0), paths(0, 0)]
AT_THE_PLACE = [see(0, (0, 0)), seen(0), can(0), first(), worlds(), chance(0, (0, 0)), drop([1] * 10)]
ALL_BUT_READ = OF_THE_FAMILY + [place(0, [1, 3])] + AT_THE_PLACE
REFUSED_TEXTS = ["a", "a f\na f", "a f b c", "b m b a\na f", "".join(f"n{i} f\n" for i in range(65)), "a" * 17000]
LARGEST = 4294967295


class NoFamily(unittest.TestCase):
    def test_every_other_call_is_refused(self):
        for call in ALL_BUT_READ:
            self.assertEqual(ask(call), [(-8, [], "")])
            self.assertEqual(answers(call), [1, -8])

    def test_also_where_the_person_is_none(self):
        calls = [person(LARGEST), kin(9, 9), inbred(9), states(9, 9), tie(9, 9), paths(9, 9), find(""), see(9),
                 seen(LARGEST), can(9), chance(9), drop([])]
        self.assertEqual(ask(*calls), [(-8, [], "")] * len(calls))

    def test_also_where_the_place_is_none(self):
        calls = [place(2, [1]), place(0, []), place(0, [0]), place(0, [256]), place(LARGEST, [LARGEST])]
        self.assertEqual(ask(*calls), [(-8, [], "")] * len(calls))

    def test_a_place_told_before_the_family_is_none(self):
        self.assertEqual(ask(place(0, [1]), read("a f"), seen(0)), [(-8, [], ""), (0, [], ""), (-4, [], "")])

    def test_a_refused_read_gives_no_family(self):
        for text in REFUSED_TEXTS:
            found = ask(read(text), *ALL_BUT_READ)
            self.assertLess(found[0][0], 0)
            self.assertEqual(found[1:], [(-8, [], "")] * len(ALL_BUT_READ))

    def test_a_family_of_nobody_is_one(self):
        found = ask_of("", people(), find("a"), find(""), person(0), kin(0, 0), inbred(0), states(0, 0), tie(0, 0),
                       paths(0, 0))
        self.assertEqual([answer[0] for answer in found], [0, -1, -1, -2, -2, -2, -2, -2, -2])
        calls = [see(0), seen(0), can(0), chance(0), first(), worlds(), drop([])]
        expected = [-2, -2, -2, -2]
        self.assertEqual([answer[0] for answer in ask_of("", *calls)], expected + [-4, -4, -4])
        self.assertEqual([answer[0] for answer in ask_of("", place(1, [2]), *calls)], [0] + expected + [-1, 0, 0])


class NoSuchPerson(unittest.TestCase):
    def test_each_call_with_a_person(self):
        for nobody in (5, 6, 64, LARGEST):
            calls = [person(nobody), inbred(nobody)]
            for call in (kin, states, tie, paths):
                calls += [call(nobody, 0), call(0, nobody), call(nobody, nobody)]
            calls += [see(nobody, (0, 0)), see(nobody), seen(nobody), can(nobody), chance(nobody, (0, 0))]
            self.assertEqual(ask_of(EXAMPLE, *calls), [(-2, [], "")] * len(calls))
            self.assertEqual(ask_of(EXAMPLE, place(0, [1]), *calls)[1:], [(-2, [], "")] * len(calls))

    def test_ahead_of_none_that_agrees(self):
        found = ask_of(EXAMPLE, place(0, [1]), see(0), chance(5, (0, 0)), chance(4, (0, 0)))
        self.assertEqual(found[2:], [(-2, [], ""), (-3, [], "")])

    def test_the_last_person_is_there(self):
        calls = [person(4), inbred(4), kin(4, 0), kin(0, 4), states(4, 4), tie(4, 4), paths(4, 4), place(0, [1]),
                 see(4, (0, 0)), seen(4), can(4), chance(4, (0, 0))]
        self.assertTrue(all(answer[0] >= 0 for answer in ask_of(EXAMPLE, *calls)))


class NoPlace(unittest.TestCase):
    def test_each_call_at_a_place(self):
        self.assertEqual(ask_of(EXAMPLE, *AT_THE_PLACE), [(-4, [], "")] * len(AT_THE_PLACE))
        calls = [see(4), chance(4), drop([])]
        self.assertEqual(ask_of(EXAMPLE, *calls), [(-4, [], "")] * 3)

    def test_the_others_need_none(self):
        self.assertTrue(all(answer[0] >= 0 for answer in ask_of(EXAMPLE, *OF_THE_FAMILY)))
        self.assertEqual(ask_of(EXAMPLE, place(0, [0]), place(0, [1])), [(-1, [], ""), (0, [], "")])

    def test_a_person_that_there_is_not_comes_first(self):
        found = ask_of(EXAMPLE, see(5, (0, 0)), seen(5), can(LARGEST), chance(5, (0, 0)), seen(4))
        self.assertEqual(found, [(-2, [], "")] * 4 + [(-4, [], "")])


class RefusalsChangeNothing(unittest.TestCase):
    def test_a_refused_read_leaves_the_family(self):
        calls = ALL_BUT_READ + [person(4), find("eve"), kin(4, 4), states(4, 2), tie(4, 1), paths(4, 1)]
        expected = ask_of(EXAMPLE, *calls)
        for text in REFUSED_TEXTS:
            found = ask_of(EXAMPLE, read(text), *calls)
            self.assertLess(found[0][0], 0)
            self.assertEqual(found[1:], expected)

    def test_other_refusals_leave_it_too(self):
        refused = [person(5), kin(5, 0), kin(0, 5), inbred(5), states(0, 5), tie(5, 0), paths(0, 5), find("zoe"),
                   place(2, [1]), see(0), see(5), seen(0), can(0), first(), worlds(), chance(0), drop([])]
        found = ask_of(EXAMPLE, *refused, *ALL_BUT_READ)
        self.assertTrue(all(answer[0] < 0 for answer in found[:len(refused)]))
        self.assertEqual(found[len(refused):], ask_of(EXAMPLE, *ALL_BUT_READ))

    def test_nor_do_they_change_the_place_and_what_has_been_seen(self):
        for by_sex in (0, 1):
            before = [place(by_sex, [1, 3]), see(4, (0, 0), (1, 1)), see(0)]
            refused = [person(5), read("a"), place(2, [1]), place(0, [256]), see(5, (0, 1)), see(LARGEST), seen(5),
                       can(5), chance(5, (0, 0)), chance(1, (0, 0)), drop([]), drop([1, 2, 3])]
            after = [seen(i) for i in range(5)] + [can(4), first(), worlds(), chance(4, (0, 0)), see(0, (0, 0)), can(4),
                                                   first(), worlds(), chance(4, (0, 0)), drop([1] * 10)]
            found = ask_of(EXAMPLE, *before, *refused, *after)
            end = len(before) + len(refused)
            self.assertTrue(all(answer[0] < 0 for answer in found[len(before):end]))
            self.assertEqual(found[:len(before)] + found[end:], ask_of(EXAMPLE, *before, *after))

    def test_the_family_is_as_it_was_beside_a_place(self):
        for by_sex in (0, 1):
            calls = OF_THE_FAMILY + [kin(4, 4), inbred(4), states(2, 3), tie(2, 3), paths(4, 0)]
            found = ask_of(EXAMPLE, place(by_sex, [1, 3]), see(0), see(4, (0, 0)), *calls)
            self.assertEqual(found[3:], ask_of(EXAMPLE, *calls))

    def test_another_family_takes_the_place_of_the_first(self):
        found = ask_of(EXAMPLE, read("zoe f\nyan m\n"), people(), find("ann"), find("zoe"), person(1), person(2))
        self.assertEqual(found, [
            (0, [], ""), (2, [], ""), (-1, [], ""), (0, [], ""), (3, [1], "yan"), (-2, [], "")])
        self.assertEqual(ask_of(EXAMPLE, read(""), people()), [(0, [], ""), (0, [], "")])

    def test_calls_change_nothing_either(self):
        self.assertEqual(ask_of(EXAMPLE, *ALL_BUT_READ, *ALL_BUT_READ), ask_of(EXAMPLE, *ALL_BUT_READ) * 2)


class Layout(unittest.TestCase):
    def given(self, *calls):
        return answers([number for call in calls for number in call])

    def test_read_and_people(self):
        self.assertEqual(answers([1, 3, 97, 32, 102, 2]), [1, 0, 1, 1])
        self.assertEqual(answers([1, 0, 2]), [1, 0, 1, 0])

    def test_faults_have_their_place(self):
        self.assertEqual(answers([1, 2, 97, 98]), [4, -2, 1, 2, 0])
        self.assertEqual(answers([1, 1, 10]), [4, -2, 1, 0, 0])
        self.assertEqual(self.given(read("b m b a\na f")), [4, -6, 1, 0, 0])

    def test_a_text_too_long_has_no_place(self):
        self.assertEqual(self.given(read("a" * 16385)), [1, -1])

    def test_person_and_find(self):
        found = self.given(read(EXAMPLE), person(0), person(1), person(4), find("eve"), find("zoe"))
        self.assertEqual(found, [
            1, 0,
            7, 3, 1, 0, 3, 97, 110, 110,
            7, 3, 1, 1, 3, 98, 111, 98,
            9, 3, 3, 0, 2, 3, 3, 101, 118, 101,
            1, 4,
            1, -1])

    def test_kin_and_inbred(self):
        found = self.given(read(EXAMPLE), kin(2, 3), kin(0, 1), inbred(4), inbred(0))
        self.assertEqual(found, [1, 0, 5, 0, 2, 1, 2, 0, 5, 0, 2, 0, 0, 0, 5, 0, 2, 1, 2, 0, 5, 0, 2, 0, 0, 0])

    def test_states(self):
        found = self.given(read(EXAMPLE), states(2, 3), states(0, 1))
        self.assertEqual(found, [
            1, 0, 12, 2, 9, 0, 0, 0, 0, 0, 0, 1, 2, 1, 0, 12, 0, 9, 0, 0, 0, 0, 0, 0, 0, 0, 1, 0])

    def test_tie_and_paths(self):
        found = self.given(read(EXAMPLE), tie(2, 3), tie(0, 1), paths(4, 0), paths(0, 4))
        self.assertEqual(found, [1, 0, 6, 1, 3, 1, 1, 2, 0, 1, 0, 1, 2, 1, 0])

    def test_place_see_and_seen(self):
        found = answers([1, 3, 97, 32, 102, 10, 0, 2, 1, 3, 11, 0, 4, 1, 0, 0, 1, 12, 0, 11, 0, 0, 12, 0])
        self.assertEqual(found, [1, 0, 1, 0, 1, 0, 7, 2, 4, 0, 1, 1, 0, 0, 1, 0, 1, 0])

    def test_can_first_and_worlds(self):
        found = answers([1, 3, 97, 32, 109, 10, 1, 2, 1, 3, 13, 0, 14, 15, 11, 0, 0, 13, 0, 14, 15])
        self.assertEqual(found, [
            1, 0, 1, 0, 7, 2, 4, 0, 0, 1, 1, 0, 1, -1, 4, 0, 1, 2, 0, 1, 0, 1, 0, 1, 0, 4, 0, 1, 0, 0])

    def test_chance(self):
        found = answers([1, 3, 97, 32, 109, 10, 1, 2, 1, 3, 16, 0, 2, 1, 1, 16, 0, 0, 11, 0, 0, 16, 0, 2, 1, 1])
        self.assertEqual(found, [1, 0, 1, 0, 5, 0, 2, 3, 4, 0, 5, 0, 2, 0, 1, 0, 1, 0, 1, -3])

    def test_drop(self):
        found = answers([1, 3, 97, 32, 102, 10, 0, 2, 1, 3, 17, 2, 0, 1, 17, 1, 0, 17, 0])
        self.assertEqual(found, [1, 0, 1, 0, 5, 1, 2, 0, 1, 0, 5, -5, 2, 0, 4, 0, 5, -5, 2, 0, 4, 0])
        self.assertEqual(answers([1, 0, 10, 0, 1, 1, 17, 0]), [1, 0, 1, 0, 1, 0])

    def test_numbers_of_any_size(self):
        text = family_text([0] * 64, [()] * 64)
        found = self.given(read(text), place(0, [1] * 8), worlds())
        self.assertEqual(found, [1, 0, 1, 0, 4, 0, 1, 2 ** 384, 0])

    def test_refusals_are_their_number_alone(self):
        self.assertEqual(answers([2]), [1, -8])
        self.assertEqual(self.given(read("a f"), kin(0, 1)), [1, 0, 1, -2])
        self.assertEqual(self.given(read("a f"), seen(1), seen(0), place(2, [1])), [1, 0, 1, -2, 1, -4, 1, -1])

    def test_all_seventeen_calls_on_one_object(self):
        calls = [read(EXAMPLE), people(), person(2), find("dot"), kin(2, 3), inbred(4), states(2, 3), tie(2, 3),
                 paths(4, 0), place(0, [1, 3]), see(4, (0, 0)), seen(4), can(4), first(), worlds(), chance(0, (0, 0)),
                 drop([0, 1, 4, 7, 0, 1, 1, 0, 1, 1])]
        self.assertEqual([call[0] for call in calls], list(range(1, 18)))
        self.assertEqual(self.given(*calls), [
            1, 0, 1, 5, 9, 3, 3, 1, 1, 0, 3, 99, 105, 100, 1, 3, 5, 0, 2, 1, 2, 0, 5, 0, 2, 1, 2, 0,
            12, 2, 9, 0, 0, 0, 0, 0, 0, 1, 2, 1, 0, 6, 1, 3, 1, 1, 2, 0, 1, 2, 1, 0, 1, 0, 5, 1, 2, 0, 0, 0,
            5, 1, 2, 0, 0, 0, 1, -1, 4, 0, 1, 59, 0, 5, 0, 2, 53, 224, 0,
            13, 5, 10, 0, 1, 0, 1, 0, 1, 1, 0, 1, 0, 0])


class OneUse(unittest.TestCase):
    def test_what_is_handed_in_stays_as_it_is(self):
        calls = []
        for call in [read(EXAMPLE), read("a f\n\n")] + ALL_BUT_READ + [person(9), read("b m b a\na f")]:
            calls += call
        for call in [see(1, (1, 1), (0, 0), (1, 1)), see(1), place(2, [3, 1]), drop([1, 2]), chance(2, (9, 9), (1, 0))]:
            calls += call
        before = list(calls)
        answers(calls)
        self.assertEqual(calls, before)

    def test_two_uses_know_nothing_of_one_another(self):
        before = answers(read(EXAMPLE))
        self.assertEqual(ask(people()), [(-8, [], "")])
        self.assertEqual(answers(read(EXAMPLE)), before)

    def test_nor_does_the_place_come_down(self):
        calls = [read(EXAMPLE), place(1, [1, 3]), seen(0), worlds(), see(0, (0, 0)), see(1), first(), worlds()]
        before = ask(*calls)
        self.assertEqual(ask(seen(0), read(EXAMPLE), seen(0)), [(-8, [], ""), (0, [], ""), (-4, [], "")])
        self.assertEqual(ask(*calls), before)

    def test_what_is_given_back_is_new_each_time(self):
        calls = read(EXAMPLE) + states(2, 3) + person(4) + place(0, [1, 3]) + seen(0) + can(4) + drop([1] * 10)
        found = answers(calls)
        kept = list(found)
        found[:] = [7] * len(found)
        self.assertEqual(answers(calls), kept)

    def test_whole_numbers_in_a_list_alone(self):
        calls = read(EXAMPLE)
        for call in ALL_BUT_READ + [person(1), person(4), tie(0, 1), kin(8, 8)]:
            calls += call
        found = answers(calls)
        self.assertIs(type(found), list)
        self.assertEqual({type(number) for number in found}, {int})

    def test_400_calls(self):
        calls = read(EXAMPLE)
        for turn in range(399):
            calls += [kin(2, 3), states(2, 3), tie(2, 3), person(4)][turn % 4]
        found = taken_apart(answers(calls))
        self.assertEqual(len(found), 400)
        self.assertEqual(found[1:5] * 99, found[1:397])

    def test_as_many_numbers_as_may_be_handed_in(self):
        calls = read("a f\n" + "b" * 13983) + read("a f\n") + find("a" * 17000) + find("a")
        self.assertEqual(len(calls), 31000)
        self.assertEqual(answers(calls), [4, -2, 1, 19, 0, 1, 0, 1, -1, 1, 0])

    def test_400_calls_at_a_place(self):
        # Four persons and four kinds weigh 16384: six such calls, and all the light ones that fit.
        text = "a f\nb m\nc f b a\nd m b a\n"
        self.assertEqual(weight_of_calls([(), (), (1, 0), (1, 0)], 4), 16384)
        heavy = [worlds(), can(3), first(), chance(3, (0, 0)), worlds(), first()]
        light = [see(0, (0, 1)), seen(0), drop([turn for turn in range(9)]), drop([1, 2, 3])]
        calls = [read(text), place(0, [1, 2, 3, 4])] + heavy + light * 98
        self.assertEqual(len(calls), 400)
        found = ask(*calls)
        self.assertEqual(len(found), 400)
        self.assertEqual(found[2][1], found[6][1])
        self.assertEqual(found[4], (-1, [], ""))
        self.assertEqual(found[8:], found[8:12] * 98)

    def test_400_calls_on_64_persons_of_one_kind(self):
        text = family_text([0, 1] * 32, [()] * 62 + [(1, 0)] * 2)
        calls = [read(text), place(1, [255]), see(63)] + [first(), worlds(), can(0), chance(0, (0, 0))] * 24
        found = ask(*calls)
        self.assertEqual(found[3:], [(63, [], ""), (0, [0], ""), (0, [], ""), (-3, [], "")] * 24)
        text = family_text([0, 1] * 32, [()] * 64)
        found = ask(read(text), place(1, [255]), see(62), *[first()] * 397)
        self.assertEqual(found[3:], [(62, [], "")] * 397)

    def test_the_longest_lists(self):
        numbers = [LARGEST] * 500
        pairs = list(zip(numbers, numbers))
        calls = [read(EXAMPLE), place(0, [1, 3])] + [see(0, *pairs), chance(0, *pairs), drop(numbers * 2)] * 10
        found = ask(*calls)
        self.assertEqual(found[2:5], [(0, [], ""), (-3, [], ""), (5, [1] * 10, "")])
        self.assertEqual(found[2:], found[2:5] * 10)


if __name__ == "__main__":
    unittest.main()
