"""Promise 2: ties and paths are by the words."""

import itertools
import unittest

from tests.asking import EXAMPLE, SmallFamily, ask_of, couples, ladder, paths, tie


def forebears_by_steps(parents, a):
    """forebears[u]: who is a forebear of a by u steps."""
    forebears = [{a}]
    while forebears[-1]:
        forebears.append({parent for i in forebears[-1] for parent in parents[i]})
    return forebears


def tie_by_words(parents, a, b):
    of_a = forebears_by_steps(parents, a)
    of_b = forebears_by_steps(parents, b)
    found = []
    for u, v in itertools.product(range(len(of_a)), range(len(of_b))):
        if of_a[u] & of_b[v]:
            found.append((u + v, u, v, len(of_a[u] & of_b[v])))
    if not found:
        return (0, [], "")
    return (1, list(min(found)[1:]), "")


def paths_by_words(parents, a, b):
    whole = 0
    rows = [[a]]
    while rows:
        whole += sum(row[-1] == b for row in rows)
        rows = [row + [parent] for row in rows for parent in parents[row[-1]]]
    return (whole, [], "")


class ByTheWords(unittest.TestCase):
    def test_small_families(self):
        for seed in range(60):
            family = SmallFamily(seed, 2 + seed % 11, 12)
            pairs = list(itertools.product(range(family.persons), repeat=2))
            with self.subTest(seed=seed, text=family.text):
                found = ask_of(family.text, *[tie(a, b) for a, b in pairs])
                self.assertEqual(found, [tie_by_words(family.parents, a, b) for a, b in pairs])
                found = ask_of(family.text, *[paths(a, b) for a, b in pairs])
                self.assertEqual(found, [paths_by_words(family.parents, a, b) for a, b in pairs])


class Ties(unittest.TestCase):
    def test_of_the_document(self):
        self.assertEqual(ask_of(EXAMPLE, tie(2, 3)), [(1, [1, 1, 2], "")])

    def test_with_oneself(self):
        self.assertEqual(ask_of(EXAMPLE, tie(0, 0), tie(4, 4)), [(1, [0, 0, 1], ""), (1, [0, 0, 1], "")])

    def test_none(self):
        self.assertEqual(ask_of(EXAMPLE + "zoe f", tie(0, 1), tie(4, 5), tie(5, 4)), [(0, [], "")] * 3)

    def test_one_is_a_forebear_of_the_other(self):
        found = ask_of(EXAMPLE, tie(0, 2), tie(2, 0), tie(4, 1), tie(1, 4))
        self.assertEqual(found, [(1, [0, 1, 1], ""), (1, [1, 0, 1], ""), (1, [2, 0, 1], ""), (1, [0, 2, 1], "")])

    def test_half_and_full_sisters(self):
        text = "a f\nb m\nc m\nd f b a\ne f c a\ng f b a"
        self.assertEqual(ask_of(text, tie(3, 4), tie(3, 5)), [(1, [1, 1, 1], ""), (1, [1, 1, 2], "")])

    def test_of_the_least_sums_the_least_u(self):
        # p is a's father and b's grandfather, q is b's mother and a's grandmother: both sums are 3.
        text = "p m\nq f\nr m\nz f\nx f r q\ny m p z\na m p x\nb m y q"
        self.assertEqual(ask_of(text, tie(6, 7), tie(7, 6)), [(1, [1, 2, 1], ""), (1, [1, 2, 1], "")])

    def test_a_forebear_by_several_numbers_of_steps(self):
        # b is the father and the grandfather of d.
        text = "a f\nb m\nc f b a\nd f b c\n"
        self.assertEqual(ask_of(text, tie(3, 1), tie(3, 0), tie(3, 2)), [
            (1, [1, 0, 1], ""), (1, [2, 0, 1], ""), (1, [1, 0, 1], "")])

    def test_64_persons(self):
        # From 63 of the ladder 32 steps of two lead to person 1 and on to nobody.
        self.assertEqual(ask_of(ladder(64), tie(63, 0), tie(63, 1), tie(63, 62)), [
            (1, [32, 0, 1], ""), (1, [31, 0, 1], ""), (1, [1, 0, 1], "")])
        self.assertEqual(ask_of(couples(64), tie(63, 62), tie(63, 0)), [(1, [1, 1, 2], ""), (1, [31, 0, 1], "")])


class Paths(unittest.TestCase):
    def test_of_the_document(self):
        self.assertEqual(ask_of(EXAMPLE, paths(4, 0)), [(2, [], "")])

    def test_to_oneself(self):
        self.assertEqual(ask_of(EXAMPLE, paths(0, 0), paths(4, 4)), [(1, [], "")] * 2)

    def test_none(self):
        found = ask_of(EXAMPLE, paths(0, 4), paths(2, 3), paths(0, 1), paths(2, 4))
        self.assertEqual(found, [(0, [], "")] * 4)

    def test_to_a_parent(self):
        self.assertEqual(ask_of(EXAMPLE, paths(4, 2), paths(4, 3)), [(1, [], "")] * 2)

    def test_of_several_lengths(self):
        self.assertEqual(ask_of("a f\nb m\nc f b a\nd f b c\n", paths(3, 1)), [(2, [], "")])

    def test_64_persons_with_many_paths(self):
        to_first = [1, 0]
        while len(to_first) < 64:
            to_first.append(to_first[-1] + to_first[-2])
        self.assertGreater(to_first[63], 2 ** 32)
        self.assertEqual(ask_of(ladder(64), paths(63, 0), paths(62, 0)), [
            (to_first[63], [], ""), (to_first[62], [], "")])
        self.assertEqual(ask_of(couples(64), paths(63, 0), paths(63, 1)), [(2 ** 30, [], "")] * 2)


if __name__ == "__main__":
    unittest.main()
