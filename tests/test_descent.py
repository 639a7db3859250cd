"""Promise 1: kin, inbreeding and states are the counts over all ways, in lowest terms."""

import itertools
import unittest
from fractions import Fraction

from tests.asking import EXAMPLE, SmallFamily, ask_of, couples, family_text, inbred, kin, ladder, states


def rows_of_genes(parents):
    """Of every way everybody's two genes, straight by the document's words."""
    children = [i for i, pair in enumerate(parents) if pair]
    for way in itertools.product(itertools.product((0, 1), repeat=2), repeat=len(children)):
        choice = dict(zip(children, way))
        genes = {i: ((i, 0), (i, 1)) for i, pair in enumerate(parents) if not pair}
        while len(genes) < len(parents):
            for i in children:
                father, mother = parents[i]
                if i not in genes and father in genes and mother in genes:
                    genes[i] = (genes[father][choice[i][0]], genes[mother][choice[i][1]])
        yield genes


def state_by_table(a, b):
    between = set(a) & set(b)
    return {
        (True, True): 1 if between else 2,
        (True, False): 3 if between else 4,
        (False, True): 5 if between else 6,
        (False, False): 9 - len(between),
    }[len(set(a)) == 1, len(set(b)) == 1]


def counted(parents):
    """(kin, states) of all pairs of persons as fractions, each way counted."""
    pairs = list(itertools.product(range(len(parents)), repeat=2))
    same = dict.fromkeys(pairs, 0)
    in_state = {pair: [0] * 9 for pair in pairs}
    ways = 0
    for genes in rows_of_genes(parents):
        ways += 1
        for a, b in pairs:
            same[a, b] += sum(g == h for g in genes[a] for h in genes[b])
            in_state[a, b][state_by_table(genes[a], genes[b]) - 1] += 1
    kins = {pair: Fraction(same[pair], 4 * ways) for pair in pairs}
    return kins, {pair: [Fraction(number, ways) for number in in_state[pair]] for pair in pairs}


def in_lowest_terms(fraction):
    """x and e of a fraction over a power of two."""
    return [fraction.numerator, fraction.denominator.bit_length() - 1]


def states_told(fractions):
    lower = max(fraction.denominator for fraction in fractions)
    return (lower.bit_length() - 1, [int(fraction * lower) for fraction in fractions], "")


class ByAllWays(unittest.TestCase):
    def check(self, text, parents):
        kins, in_states = counted(parents)
        pairs = list(itertools.product(range(len(parents)), repeat=2))
        found = ask_of(text, *[kin(a, b) for a, b in pairs])
        self.assertEqual(found, [(0, in_lowest_terms(kins[pair]), "") for pair in pairs])
        found = ask_of(text, *[states(a, b) for a, b in pairs])
        self.assertEqual(found, [states_told(in_states[pair]) for pair in pairs])
        found = ask_of(text, *[inbred(i) for i in range(len(parents))])
        self.assertEqual(found, [(0, in_lowest_terms(kins[pair] if pair else Fraction(0)), "") for pair in parents])

    def test_small_families(self):
        for seed in range(60):
            family = SmallFamily(seed, 3 + seed % 6, 4)
            with self.subTest(seed=seed, text=family.text):
                self.check(family.text, family.parents)

    def test_families_as_heavy_as_may_be_asked(self):
        for seed in range(3):
            family = SmallFamily(100 + seed, 9, 6)
            with self.subTest(seed=seed, text=family.text):
                self.check(family.text, family.parents)

    def test_families_without_parents_told(self):
        self.check("a f", [()])
        self.check("a f\nb m\nc f\n", [(), (), ()])


class Examples(unittest.TestCase):
    def test_of_the_document(self):
        found = ask_of(EXAMPLE, kin(2, 3), inbred(4), kin(4, 4), states(2, 3))
        self.assertEqual(found, [
            (0, [1, 2], ""), (0, [1, 2], ""), (0, [5, 3], ""), (2, [0, 0, 0, 0, 0, 0, 1, 2, 1], "")])

    def test_nothing_in_common(self):
        found = ask_of(EXAMPLE, kin(0, 1), states(0, 1), inbred(0), inbred(2))
        self.assertEqual(found, [(0, [0, 0], ""), (0, [0] * 8 + [1], ""), (0, [0, 0], ""), (0, [0, 0], "")])

    def test_the_same_person(self):
        found = ask_of(EXAMPLE, kin(0, 0), states(0, 0), kin(2, 2), states(2, 2), states(4, 4))
        self.assertEqual(found, [
            (0, [1, 1], ""), (0, [0, 0, 0, 0, 0, 0, 1, 0, 0], ""),
            (0, [1, 1], ""), (0, [0, 0, 0, 0, 0, 0, 1, 0, 0], ""),
            (2, [1, 0, 0, 0, 0, 0, 3, 0, 0], "")])

    def test_parent_and_child(self):
        found = ask_of(EXAMPLE, kin(0, 2), states(0, 2), states(2, 0))
        self.assertEqual(found, [
            (0, [1, 2], ""), (0, [0, 0, 0, 0, 0, 0, 0, 1, 0], ""), (0, [0, 0, 0, 0, 0, 0, 0, 1, 0], "")])

    def test_states_of_an_inbred_person_and_a_parent(self):
        found = ask_of(EXAMPLE, states(4, 2), states(2, 4))
        self.assertEqual(found, [
            (2, [0, 0, 1, 0, 0, 0, 1, 2, 0], ""), (2, [0, 0, 0, 0, 1, 0, 1, 2, 0], "")])

    def test_all_nine_states_of_sister_and_brother_of_such(self):
        found = ask_of(EXAMPLE + "fay f cid dot", states(4, 5), kin(4, 5))
        self.assertEqual(found, [(5, [2, 1, 4, 1, 4, 1, 7, 10, 2], ""), (0, [3, 3], "")])

    def test_children_before_their_parents(self):
        found = ask_of("eve f cid dot\ncid m bob ann\ndot f bob ann\nbob m\nann f", inbred(0), kin(1, 2), kin(0, 0))
        self.assertEqual(found, [(0, [1, 2], ""), (0, [1, 2], ""), (0, [5, 3], "")])


def kin_by_parents(parents, order):
    """Everybody's kin from their parents' kin, another road than counting; order has parents first."""
    kins = {}
    for at, i in enumerate(order):
        for j in order[:at]:
            value = sum((kins[p, j] for p in parents[i]), Fraction(0)) / 2
            kins[i, j] = value
            kins[j, i] = value
        kins[i, i] = (1 + (kins[parents[i]] if parents[i] else 0)) / Fraction(2)
    return kins


class LargeFamilies(unittest.TestCase):
    def test_kin_is_the_same_both_ways_round(self):
        for text in (EXAMPLE, couples(12), ladder(12)):
            persons = len(text.split("\n")) - text.endswith("\n")
            pairs = list(itertools.product(range(persons), repeat=2))
            there = ask_of(text, *[kin(a, b) for a, b in pairs])
            back = ask_of(text, *[kin(b, a) for a, b in pairs])
            self.assertEqual(there, back)

    def test_64_persons(self):
        family = SmallFamily(7, 64, 62)
        order = []
        while len(order) < 64:
            order += [i for i in range(64) if i not in order and all(p in order for p in family.parents[i])]
        kins = kin_by_parents(family.parents, order)
        pairs = [(order[-1], order[j]) for j in range(40, 64)]
        found = ask_of(family.text, *[kin(a, b) for a, b in pairs])
        self.assertEqual(found, [(0, in_lowest_terms(kins[pair]), "") for pair in pairs])

    def test_inbreeding_of_many_generations(self):
        parents = [() if i < 2 else (i - i % 2 - 1, i - i % 2 - 2) for i in range(64)]
        kins = kin_by_parents(parents, list(range(64)))
        found = ask_of(couples(64), inbred(63), inbred(40), inbred(4))
        self.assertEqual(found, [(0, in_lowest_terms(kins[parents[i]]), "") for i in (63, 40, 4)])

    def test_states_are_all_ways_and_agree_with_kin(self):
        for text, a, b in ((couples(64), 63, 62), (ladder(64), 63, 62), (ladder(30), 29, 3)):
            found = ask_of(text, states(a, b), kin(a, b))
            e, numbers, nothing = found[0]
            self.assertEqual(nothing, "")
            self.assertEqual(sum(numbers), 2 ** e)
            self.assertTrue(any(number % 2 for number in numbers))
            by_states = numbers[0] + Fraction(numbers[2] + numbers[4] + numbers[6], 2) + Fraction(numbers[7], 4)
            self.assertEqual(found[1], (0, in_lowest_terms(by_states / 2 ** e), ""))

    def test_what_others_have_told_changes_nothing(self):
        apart = EXAMPLE + family_text([1, 0, 1, 0], [(), (), (0, 1), (2, 1)])
        calls = [kin(2, 3), kin(4, 4), states(2, 3), states(4, 3), inbred(4)]
        self.assertEqual(ask_of(apart, *calls), ask_of(EXAMPLE, *calls))


if __name__ == "__main__":
    unittest.main()
