"""Promise 4: the first contradiction is the first."""

import unittest

from tests.asking import EXAMPLE, SeenFamily, ask_of, family_text, first, place, see, worlds

DONE = (0, [], "")
NONE = (-1, [], "")
CHILD_FIRST = "cid m bob ann\nann f\nbob m\n"


def person(i):
    return (i, [], "")


def first_by_words(family):
    for last in range(family.persons):
        if not family.agreeing(last):
            return person(last)
    return NONE


class OneByOne(unittest.TestCase):
    def test_small_families(self):
        found_at = {}
        for seed in range(400, 640):
            family = SeenFamily(seed)
            expected = first_by_words(family)
            found_at[expected[0]] = found_at.get(expected[0], 0) + 1
            with self.subTest(seed=seed, text=family.text, by_sex=family.by_sex, seen=family.seen):
                self.assertEqual(family.ask(first()), [expected])
        self.assertEqual(sorted(found_at), [-1, 0, 1, 2, 3, 4])


class ByHand(unittest.TestCase):
    def check(self, text, by_sex, seen_of, expected):
        """seen_of has a person and pairs each; expected is told behind all of it."""
        calls = [see(i, *pairs) for i, *pairs in seen_of]
        self.assertEqual(ask_of(text, place(by_sex, [1, 2]), *calls, first())[-1], expected)

    def test_nothing_has_been_seen(self):
        for by_sex in (0, 1):
            self.check(EXAMPLE, by_sex, [], NONE)
            self.check("", by_sex, [], NONE)

    def test_everything_agrees(self):
        self.check(EXAMPLE, 0, [(i, (1, 1)) for i in range(5)], NONE)
        self.check(EXAMPLE, 1, [(i, (1, 1)) for i in range(5)], NONE)

    def test_early(self):
        self.check(EXAMPLE, 1, [(1, (0, 1))], person(1))
        self.check(EXAMPLE, 0, [(0, (0, 0)), (1, (0, 0)), (2, (1, 1)), (3, (1, 1)), (4, (0, 1))], person(2))

    def test_late(self):
        self.check(EXAMPLE, 0, [(0, (0, 0)), (1, (0, 0)), (2, (0, 0)), (3, (0, 0)), (4, (0, 1))], person(4))
        self.check(EXAMPLE, 0, [(0, (0, 0)), (1, (0, 0)), (4, (0, 1))], person(4))
        self.check(EXAMPLE, 1, [(1, (0, 0)), (3, (1, 1), (1, 0))], person(3))

    def test_only_together(self):
        # From ann of (1, 1) dot can't have 0; and if dot is (1, 1), eve can't have 0 from her.
        self.check(EXAMPLE, 0, [(2, (0, 1)), (3, (1, 0)), (0, (1, 1))], person(3))
        self.check(EXAMPLE, 0, [(2, (0, 1)), (0, (1, 1)), (4, (0, 0))], NONE)
        self.check(EXAMPLE, 0, [(2, (0, 1)), (0, (1, 1)), (1, (0, 1)), (3, (1, 1)), (4, (0, 0))], person(4))

    def test_a_person_whose_seen_pairs_are_none(self):
        for i in range(5):
            self.check(EXAMPLE, 0, [(i,)], person(i))
            self.check(EXAMPLE, 1, [(i,)], person(i))
            self.check(EXAMPLE, 0, [(i, (2, 0), (0, 2))], person(i))
        self.check(EXAMPLE, 0, [(4,), (3,), (1,)], person(1))

    def test_what_has_been_seen_of_later_persons_does_not_count(self):
        self.check(EXAMPLE, 0, [(0, (0, 0)), (2, (1, 1)), (3,), (4, (0, 0))], person(2))
        self.check(EXAMPLE, 0, [(0, (0, 0)), (2, (0, 0)), (3, (0, 1)), (4,)], person(3))
        self.check(EXAMPLE, 0, [(4, (0, 0)), (3, (1, 1)), (2, (0, 0)), (1, (0, 1)), (0, (0, 1))], person(4))

    def test_a_child_ahead_of_its_parents(self):
        self.check(CHILD_FIRST, 0, [(0, (1, 1)), (1, (0, 0)), (2, (0, 0))], person(1))
        self.check(CHILD_FIRST, 0, [(0, (1, 0)), (1, (0, 0)), (2, (0, 0))], person(2))
        self.check(CHILD_FIRST, 1, [(0, (1, 1)), (1, (0, 1)), (2, (0, 0))], NONE)
        self.check(CHILD_FIRST, 1, [(0, (0, 1)), (1, (0, 1))], person(0))

    def test_seeing_anew_takes_a_contradiction_away(self):
        found = ask_of(EXAMPLE, place(0, [1, 1]), see(1), first(), see(1, (0, 0)), see(4), first(), see(4, (0, 0)),
                       first(), place(0, [1, 1]), first())
        self.assertEqual(found, [
            DONE, DONE, person(1), DONE, DONE, person(4), DONE, NONE, DONE, NONE])

    def test_asking_changes_nothing(self):
        found = ask_of(EXAMPLE, place(0, [1, 1]), see(0, (0, 0)), see(2, (1, 1)), first(), first(), worlds())
        self.assertEqual(found[3:], [person(2), person(2), (0, [0], "")])

    def test_each_of_64_persons(self):
        text = family_text([0, 1] * 32, [()] * 64)
        for i in range(64):
            found = ask_of(text, place(0, [1]), see(i), first(), see(63), first())
            self.assertEqual(found, [DONE, DONE, person(i), DONE, person(i)])


if __name__ == "__main__":
    unittest.main()
