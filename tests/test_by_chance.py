"""A drop by chance, by a row of answers."""

import random
import unittest

from tests.asking import EXAMPLE, SmallFamily, ask_of, drop, flat, parents_first, place, see

LARGEST = 4294967295
MIXED = "eve f cid dot\ncid m bob ann\ndot f bob ann\nbob m\nann f\nzoe f\nyan m bob zoe\n"
# The order in which those of MIXED get their pairs is bob, ann, cid, dot, eve, zoe, yan.


def drop_by_words(family, by_sex, weights, row):
    """The answer of drop, step by step by the document's words; it takes the answers from a copy of the row."""
    left = list(row)
    pairs = {}
    for i in parents_first(family.parents):
        man = family.sexes[i] == 1
        if family.parents[i]:
            father, mother = family.parents[i]
            sides = [(2, pairs[mother])] if by_sex else [(2, pairs[father]), (2, pairs[mother])]
        else:
            every = [kind for kind, weight in enumerate(weights) for turn in range(weight)]
            sides = [(sum(weights), every)] * (1 if by_sex and man else 2)
        genes = []
        for divisor, choices in sides:
            if not left:
                return (-5, [i, divisor], "")
            genes.append(choices[left.pop(0) % divisor])
        if by_sex and man:
            genes = genes * 2
        elif by_sex and family.parents[i]:
            genes = [pairs[father][0]] + genes
        pairs[i] = tuple(genes)
    return (len(pairs), flat(pairs[i] for i in range(len(pairs))), "")


class ByTheWords(unittest.TestCase):
    def test_families(self):
        for seed in range(80):
            choose = random.Random(seed)
            family = SmallFamily(seed, choose.choice((1, 2, 3, 5, 8, 20, 64)), 60)
            weights = [choose.randrange(1, 32) for kind in range(choose.randrange(1, 9))]
            row = [choose.choice((choose.randrange(300), choose.randrange(LARGEST + 1))) for turn in range(130)]
            for by_sex in (0, 1):
                rows = [row, row[:choose.randrange(130)], row[:2 * family.persons], row[:2 * family.persons - 1]]
                found = ask_of(family.text, place(by_sex, weights), *[drop(asked) for asked in rows])
                with self.subTest(seed=seed, by_sex=by_sex):
                    self.assertEqual(found[1:], [drop_by_words(family, by_sex, weights, asked) for asked in rows])


class Counted(unittest.TestCase):
    """By hand."""

    def check(self, text, by_sex, weights, row, pairs):
        found = ask_of(text, place(by_sex, weights), drop(row))
        self.assertEqual(found[1:], [(len(pairs), flat(pairs), "")])

    def test_kinds_by_their_weights(self):
        for weights, kinds in (([1, 3], "0111"), ([2, 1, 5], "00122222"), ([1], "0"), ([3, 1], "0001")):
            for answer in range(3 * len(kinds)):
                kind = int(kinds[answer % len(kinds)])
                self.check("a f", 0, weights, [answer, 0], [(kind, 0)])
                self.check("a m", 0, weights, [0, answer], [(0, kind)])
                self.check("a m", 1, weights, [answer], [(kind, kind)])
                self.check("a f", 1, weights, [0, answer], [(0, kind)])

    def test_a_family(self):
        self.check(EXAMPLE, 0, [1, 3], [0, 1, 4, 7, 0, 1, 1, 0, 1, 1], [(0, 1), (0, 1), (0, 1), (1, 0), (1, 0)])
        self.check(EXAMPLE, 0, [1, 3], [0, 1, 4, 7, 2, 8, 3, 5, 0, 0], [(0, 1), (0, 1), (0, 0), (1, 1), (0, 1)])

    def test_by_sex(self):
        # ann: 2 (kind 1), 0 (kind 0); bob: 5 (kind 1); cid has ann's m, dot bob's and ann's p, eve cid's and dot's m.
        self.check(EXAMPLE, 1, [1, 3], [2, 0, 5, 1, 0, 1], [(1, 0), (1, 1), (0, 0), (1, 1), (0, 1)])
        self.check(EXAMPLE, 1, [1, 3], [0, 1, 4, 1, 1, 0], [(0, 1), (0, 0), (1, 1), (0, 1), (1, 0)])

    def test_parents_behind_their_children(self):
        row = [0, 1, 2, 3, 0, 1, 1, 0, 1, 0, 3, 3, 1, 1]
        bob, ann, zoe = (0, 1), (2, 2), (2, 2)
        cid, dot = (0, 2), (1, 2)
        self.check(MIXED, 0, [1, 1, 2], row, [(2, 1), cid, dot, bob, ann, zoe, (1, 2)])

    def test_parents_behind_their_children_by_sex(self):
        # bob 0; ann 1, 2; cid ann's m; dot bob's, ann's p; eve cid's, dot's m; zoe 3, 0; yan zoe's p.
        row = [0, 1, 2, 1, 0, 1, 3, 0, 0]
        self.check(MIXED, 1, [1, 1, 2], row, [(2, 1), (2, 2), (0, 1), (0, 0), (1, 2), (2, 0), (2, 2)])

    def test_more_answers_than_needed(self):
        for by_sex, needed in ((0, 10), (1, 6)):
            row = [3, 0, 1, 2, 1, 0, 1, 1, 0, 2]
            exact = ask_of(EXAMPLE, place(by_sex, [1, 3]), drop(row[:needed]))
            self.assertEqual(exact[1][0], 5)
            for more in ([0], [LARGEST], [1, 2, 3], [LARGEST] * (1000 - needed)):
                self.assertEqual(ask_of(EXAMPLE, place(by_sex, [1, 3]), drop(row[:needed] + more)), exact)

    def test_large_answers(self):
        # The rest of 4,294,967,295 by 4 is 3, by 2 is 1, by 255 is 0, by 7 is 3.
        self.check("a f", 0, [1, 2, 1], [LARGEST, LARGEST - 3], [(2, 0)])
        self.check("a f", 0, [1, 254], [LARGEST, LARGEST - 1], [(0, 1)])
        self.check("a f", 0, [3, 4], [LARGEST, LARGEST - 1], [(1, 0)])
        self.check("a f\nb m\nc f b a", 0, [1, 1], [0, 1, 1, 0, LARGEST, LARGEST - 1], [(0, 1), (1, 0), (0, 0)])
        self.check("a f\nb m\nc f b a", 1, [1, 1], [0, 1, LARGEST, LARGEST], [(0, 1), (1, 1), (1, 1)])

    def test_nobody(self):
        for by_sex in (0, 1):
            for row in ([], [1], [LARGEST] * 1000):
                self.assertEqual(ask_of("", place(by_sex, [1, 3]), drop(row)), [(0, [], "")] * 2)

    def test_what_has_been_seen_does_not_matter(self):
        for by_sex, row in ((0, [0, 1, 4, 7, 0, 1, 1, 0, 1, 1]), (1, [2, 0, 5, 1, 0, 1]), (0, [1, 2, 3]), (1, [])):
            plain = ask_of(EXAMPLE, place(by_sex, [1, 3]), drop(row))[1]
            for seen_of in ([see(0)], [see(i, (1, 1)) for i in range(5)], [see(4, (0, 1)), see(1)]):
                self.assertEqual(ask_of(EXAMPLE, place(by_sex, [1, 3]), *seen_of, drop(row))[-1], plain)


class RunOut(unittest.TestCase):
    def check(self, text, by_sex, weights, needed):
        """needed has, for each answer in order, the person and by what it counts."""
        for length, missing in enumerate(needed):
            for answer in (0, 1, LARGEST):
                found = ask_of(text, place(by_sex, weights), drop([answer] * length))
                self.assertEqual(found[1:], [(-5, missing, "")], length)
        found = ask_of(text, place(by_sex, weights), drop([1] * len(needed)))
        self.assertGreaterEqual(found[1][0], 0)

    def test_at_each_place(self):
        self.check(EXAMPLE, 0, [1, 3], [
            [0, 4], [0, 4], [1, 4], [1, 4], [2, 2], [2, 2], [3, 2], [3, 2], [4, 2], [4, 2]])

    def test_at_each_place_by_sex(self):
        self.check(EXAMPLE, 1, [1, 3], [[0, 4], [0, 4], [1, 4], [2, 2], [3, 2], [4, 2]])

    def test_parents_behind_their_children(self):
        self.check(MIXED, 0, [7, 1, 247], [
            [3, 255], [3, 255], [4, 255], [4, 255], [1, 2], [1, 2], [2, 2], [2, 2], [0, 2], [0, 2],
            [5, 255], [5, 255], [6, 2], [6, 2]])
        self.check(MIXED, 1, [7, 1, 247], [
            [3, 255], [4, 255], [4, 255], [1, 2], [2, 2], [0, 2], [5, 255], [5, 255], [6, 2]])

    def test_a_single_kind(self):
        self.check("a f\nb m", 0, [1], [[0, 1], [0, 1], [1, 1], [1, 1]])
        self.check("a f\nb m", 1, [2], [[0, 2], [0, 2], [1, 2]])

    def test_it_changes_nothing(self):
        row = [3, 0, 1, 2, 1, 0, 1, 1, 0, 2]
        found = ask_of(EXAMPLE, place(0, [1, 3]), drop(row[:7]), drop(row), drop([]), drop(row))
        self.assertEqual(found[1], (-5, [3, 2], ""))
        self.assertEqual(found[2], found[4])
        self.assertEqual(found[2], ask_of(EXAMPLE, place(0, [1, 3]), drop(row))[1])


if __name__ == "__main__":
    unittest.main()
