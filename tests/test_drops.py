"""Promise 3: what can be, worlds and chances are by drops, counted one by one."""

import random
import unittest
from fractions import Fraction

from tests.asking import (
    EXAMPLE, SeenFamily, all_drops, ask_of, can, chance, couples, family_text, first, flat, place, see, weight_of_calls,
    worlds)

DONE = (0, [], "")
TRIO = "ann f\nbob m\ncid m bob ann\ndot f bob ann\n"
TRIO_SEXES = [0, 1, 1, 0]
TRIO_PARENTS = [(), (), (1, 0), (1, 0)]


def told(pairs):
    return (len(pairs), flat(pairs), "")


def part(upper, lower):
    fraction = Fraction(upper, lower)
    return (0, [fraction.numerator, fraction.denominator], "")


class OneByOne(unittest.TestCase):
    def check(self, family):
        agreeing = family.agreeing()
        everybody = range(family.persons)
        found = family.ask(*[can(i) for i in everybody], worlds())
        self.assertEqual(found, [told(sorted({pairs[i] for pairs, weight in agreeing})) for i in everybody]
                         + [(0, [len({pairs for pairs, weight in agreeing})], "")])
        whole = sum(weight for pairs, weight in agreeing)
        for i in everybody:
            asked = self.lists_of_pairs(family)
            expected = [(-3, [], "")] * len(asked)
            if agreeing:
                expected = [part(sum(w for pairs, w in agreeing if pairs[i] in row), whole) for row in asked]
            self.assertEqual(family.ask(*[chance(i, *row) for row in asked]), expected)

    def lists_of_pairs(self, family):
        """Each pair alone, none, all, and some with pairs told twice and pairs that there aren't."""
        choose = random.Random(family.text)
        kinds = len(family.weights)
        some = [(choose.randrange(kinds + 1), choose.randrange(kinds + 1)) for turn in range(4)]
        return [[pair] for pair in family.pairs] + [[], family.pairs, some, some + family.pairs[:2] + some]

    def test_small_families(self):
        agreeing = 0
        for seed in range(150):
            family = SeenFamily(seed)
            agreeing += bool(family.agreeing())
            with self.subTest(seed=seed, text=family.text, by_sex=family.by_sex, seen=family.seen):
                self.check(family)
        self.assertGreater(agreeing, 90)
        self.assertLess(agreeing, 145)

    def test_without_what_has_been_seen(self):
        for seed in range(200, 240):
            family = SeenFamily(seed)
            family.seen = {}
            family.calls = family.calls[:2]
            with self.subTest(seed=seed, text=family.text, by_sex=family.by_sex):
                self.check(family)

    def test_chances_of_all_pairs_apart_sum_to_1(self):
        for seed in range(300, 340):
            family = SeenFamily(seed)
            if not family.agreeing():
                continue
            for i in range(family.persons):
                found = family.ask(*[chance(i, pair) for pair in family.pairs], chance(i, *family.pairs))
                self.assertEqual(sum(Fraction(*listed) for number, listed, text in found[:-1]), 1)
                self.assertEqual(found[-1], (0, [1, 1], ""))


class Examples(unittest.TestCase):
    def test_of_the_document(self):
        found = ask_of(EXAMPLE, place(0, [1, 3]), chance(0, (0, 0)), see(4, (0, 0)), chance(0, (0, 0)), worlds())
        self.assertEqual(found, [DONE, (0, [1, 16], ""), DONE, (0, [53, 224], ""), (0, [59], "")])

    def test_lowest_terms(self):
        found = ask_of("a f", place(0, [4, 4]), *[chance(0, *[(0, 0), (0, 1), (1, 0), (1, 1)][:n]) for n in range(5)])
        self.assertEqual(found[1:], [part(0, 1), part(1, 4), part(1, 2), part(3, 4), part(1, 1)])

    def test_0_is_0_by_1(self):
        found = ask_of(EXAMPLE, place(0, [1, 3]), see(0, (0, 0)), chance(0, (1, 1)), chance(0), chance(0, (2, 0)))
        self.assertEqual(found[2:], [(0, [0, 1], "")] * 3)

    def test_pairs_told_twice_or_that_there_are_not(self):
        found = ask_of(EXAMPLE, place(0, [1, 3]), chance(0, (0, 0), (0, 0)), chance(0, (0, 0), (2, 0), (0, 4294967295)),
                       chance(0, (0, 1), (0, 0), (0, 1), (9, 9)))
        self.assertEqual(found[1:], [part(1, 16), part(1, 16), part(1, 4)])

    def test_none_agrees(self):
        found = ask_of(EXAMPLE, place(0, [1, 3]), see(0, (0, 0)), see(1, (0, 0)), see(2, (0, 1)), can(0), can(3),
                       worlds(), chance(0, (0, 0)), chance(4), first())
        self.assertEqual(found[4:], [(0, [], ""), (0, [], ""), (0, [0], ""), (-3, [], ""), (-3, [], ""), (2, [], "")])

    def test_of_no_persons(self):
        for by_sex in (0, 1):
            found = ask_of("", place(by_sex, [1, 3]), worlds(), first(), can(0), chance(0, (0, 0)), see(0))
            self.assertEqual(found, [DONE, (0, [1], ""), (-1, [], ""), (-2, [], ""), (-2, [], ""), (-2, [], "")])

    def test_one_kind(self):
        found = ask_of(EXAMPLE, place(0, [255]), worlds(), can(4), chance(4, (0, 0)), see(4, (0, 0)), worlds(), first())
        self.assertEqual(found[1:], [
            (0, [1], ""), told([(0, 0)]), part(1, 1), DONE, (0, [1], ""), (-1, [], "")])

    def test_what_is_seen_of_a_child_tells_of_the_parents(self):
        found = ask_of(TRIO, place(0, [1, 1]), see(2, (0, 1)), can(0), can(1), see(3, (1, 0)), can(0), can(1), worlds())
        self.assertEqual(found[2:], [
            told([(0, 1), (1, 0), (1, 1)]), told([(0, 0), (0, 1), (1, 0)]), DONE,
            told([(0, 1), (1, 0)]), told([(0, 1), (1, 0)]), (0, [4], "")])

    def test_ways_count_apart_in_chances_and_not_in_worlds(self):
        # From a mother of (0, 0) 0 comes down in two ways, from one of (0, 1) in one: so (0, 0) is twice as likely.
        found = ask_of("ann f\nbob m\ncid m bob ann", place(0, [1, 1]), see(1, (0, 0)), see(2, (0, 0)),
                       see(0, (0, 0), (0, 1)), worlds(), chance(0, (0, 0)))
        self.assertEqual(found[4:], [(0, [2], ""), part(2, 3)])

    def test_families_apart_do_not_matter(self):
        text = EXAMPLE + "fay f\ngus m"
        found = ask_of(text, place(0, [1, 3]), see(4, (0, 0)), chance(0, (0, 0)), worlds(), can(6))
        self.assertEqual(found[2:], [part(53, 224), (0, [59 * 16], ""), told([(0, 0), (0, 1), (1, 0), (1, 1)])])


class BySex(unittest.TestCase):
    def ask(self, *calls):
        return ask_of(TRIO, place(1, [1, 3]), *calls)[1:]

    def test_a_man_without_parents_has_one_gene(self):
        found = self.ask(can(1), chance(1, (0, 0)), chance(1, (1, 1)), chance(1, (0, 1), (1, 0)))
        self.assertEqual(found, [told([(0, 0), (1, 1)]), part(1, 4), part(3, 4), part(0, 1)])
        self.assertEqual(ask_of("b m", place(1, [1, 3, 1]), worlds()), [DONE, (0, [3], "")])
        self.assertEqual(ask_of("b m", place(0, [1, 3, 1]), worlds()), [DONE, (0, [9], "")])

    def test_a_woman_without_parents_has_two(self):
        self.assertEqual(self.ask(can(0), chance(0, (0, 1))), [told([(0, 0), (0, 1), (1, 0), (1, 1)]), part(3, 16)])

    def test_a_son_has_his_mothers(self):
        found = self.ask(can(2), chance(2, (0, 0)), see(0, (1, 1)), can(2), see(0, (0, 1)), chance(2, (0, 0)))
        self.assertEqual(found, [
            told([(0, 0), (1, 1)]), part(1, 4), DONE, told([(1, 1)]), DONE, part(1, 2)])

    def test_a_son_has_nothing_from_his_father(self):
        found = self.ask(see(1, (0, 0)), chance(2, (0, 0)), see(2, (1, 1)), chance(1, (0, 0)), first(), worlds())
        # Three mothers have 1; with each of (0, 1) and (1, 0) two daughters go, with (1, 1) one.
        self.assertEqual(found, [DONE, part(1, 4), DONE, part(1, 1), (-1, [], ""), (0, [5], "")])

    def test_a_daughter_has_her_fathers_one(self):
        found = self.ask(see(1, (0, 0)), can(3), see(0, (1, 1)), can(3), see(1, (1, 1)), see(0, (0, 1)), can(3),
                         chance(3, (1, 0)))
        self.assertEqual(found, [
            DONE, told([(0, 0), (0, 1)]), DONE, told([(0, 1)]), DONE, DONE, told([(1, 0), (1, 1)]), part(1, 2)])

    def test_a_daughter_tells_of_her_father(self):
        self.assertEqual(self.ask(see(3, (0, 1)), can(1), can(0), chance(0, (1, 1))), [
            DONE, told([(0, 0)]), told([(0, 1), (1, 0), (1, 1)]), part(3, 4)])

    def test_a_mans_two_never_differ(self):
        self.assertEqual(self.ask(see(2, (0, 1), (1, 0)), first(), can(2), chance(0)), [
            DONE, (2, [], ""), (0, [], ""), (-3, [], "")])

    def test_from_a_grandfather_through_his_daughter(self):
        text = "bob m\nann f\ndot f bob ann\ngus m\neve m gus dot\nfay f gus dot"
        found = ask_of(text, place(1, [1, 1]), see(0, (0, 0)), see(1, (1, 1)), see(3, (1, 1)), can(2), can(4), can(5),
                       chance(4, (0, 0)), worlds())
        self.assertEqual(found[4:], [
            told([(0, 1)]), told([(0, 0), (1, 1)]), told([(1, 0), (1, 1)]), part(1, 2), (0, [4], "")])

    def test_worlds_and_weights_by_hand(self):
        self.assertEqual(self.ask(worlds()), [(0, [2 * (1 + 4 + 4 + 1)], "")])
        drops = list(all_drops(TRIO_SEXES, TRIO_PARENTS, 1, [1, 3]))
        self.assertEqual(len(drops), 2 ** 3 * 4 ** 2)
        self.assertEqual(sum(weight for pairs, weight in drops), 4 ** 3 * 4 ** 2)


class HeavyAndLarge(unittest.TestCase):
    def test_as_heavy_as_may_be_asked(self):
        for sexes, parents, kinds in (
                ([0, 1, 0], [(), (), (1, 0)], 6), ([0, 1, 1, 0], [(), ()] + [(1, 0)] * 2, 4), ([0, 1], [(), ()], 8),
                ([0, 1, 0, 1, 0], [(), ()] + [(1, 0)] * 3, 2), ([0, 1, 1, 0], [(), (), (), (2, 0)], 3),
                ([0, 1] * 32, [()] * 60 + [(1, 0)] * 4, 1)):
            self.assertLessEqual(weight_of_calls(parents, kinds), 20000)
            weights = list(range(1, kinds + 1))
            last = len(parents) - 1
            found = ask_of(family_text(sexes, parents), place(0, weights), can(last), worlds(), first(),
                           chance(last, (0, 0)))
            drops = list(all_drops(sexes, parents, 0, weights)) if kinds > 1 else [(((0, 0),) * 64, 1)]
            whole = sum(weight for pairs, weight in drops)
            rows = {pairs for pairs, weight in drops}
            self.assertEqual(found[1:], [
                told(sorted({row[last] for row in rows})), (0, [len(rows)], ""), (-1, [], ""),
                part(sum(weight for pairs, weight in drops if pairs[last] == (0, 0)), whole)])

    def test_64_persons_without_parents(self):
        text = family_text([0, 1] * 32, [()] * 64)
        found = ask_of(text, place(0, [1] * 8), worlds(), place(1, [1] * 8), worlds(), see(0, (0, 0)), worlds())
        self.assertEqual(found[1:], [
            (0, [64 ** 64], ""), DONE, (0, [64 ** 32 * 8 ** 32], ""), DONE, (0, [64 ** 31 * 8 ** 32], "")])

    def test_many_generations(self):
        # Whoever is unlike their forebears can't be.
        found = ask_of(couples(64), place(0, [1, 1]), see(0, (0, 0)), see(1, (0, 0)), worlds(), can(63),
                       see(63, (0, 1)), first(), worlds())
        self.assertEqual(found[3:], [(0, [1], ""), told([(0, 0)]), DONE, (63, [], ""), (0, [0], "")])


if __name__ == "__main__":
    unittest.main()
