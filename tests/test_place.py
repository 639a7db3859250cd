"""One place: what place, see and seen answer, and what they keep and forget."""

import itertools
import random
import unittest

from tests.asking import EXAMPLE, ask_of, can, chance, drop, first, flat, place, read, see, seen, worlds

LARGEST = 4294967295
DONE = (0, [], "")
NO_SUCH_PLACE = (-1, [], "")
NO_PLACE = (-4, [], "")


def told(pairs):
    return (len(pairs), flat(pairs), "")


def all_pairs(kinds):
    return list(itertools.product(range(kinds), repeat=2))


class Places(unittest.TestCase):
    def check(self, by_sex, weights, expected):
        self.assertEqual(ask_of(EXAMPLE, place(by_sex, weights)), [expected], (by_sex, weights))

    def test_one_to_eight_kinds(self):
        for kinds in range(1, 9):
            self.check(0, [1] * kinds, DONE)
            self.check(1, [1] * kinds, DONE)
            self.assertEqual(ask_of(EXAMPLE, place(0, [2] * kinds), seen(0)), [DONE, told(all_pairs(kinds))])

    def test_no_kinds_and_nine(self):
        for weights in ([], [1] * 9, [1] * 255, [1] * 1000):
            self.check(0, weights, NO_SUCH_PLACE)
            self.check(1, weights, NO_SUCH_PLACE)

    def test_a_weight_of_0(self):
        for weights in ([0], [0, 1], [1, 0], [3, 0, 3], [1, 1, 1, 1, 1, 1, 1, 0]):
            self.check(0, weights, NO_SUCH_PLACE)

    def test_weights_together(self):
        for weights in ([255], [254, 1], [1, 254], [31] * 7 + [38]):
            self.check(0, weights, DONE)
        for weights in ([256], [255, 1], [1, 255], [32] * 8, [LARGEST], [LARGEST] * 8, [128, 128]):
            self.check(0, weights, NO_SUCH_PLACE)

    def test_by_sex(self):
        self.check(0, [1, 3], DONE)
        self.check(1, [1, 3], DONE)
        for by_sex in (2, 3, 256, LARGEST):
            self.check(by_sex, [1, 3], NO_SUCH_PLACE)
            self.check(by_sex, [], NO_SUCH_PLACE)

    def test_by_sex_is_no_person(self):
        self.assertEqual(ask_of("", place(1, [1])), [DONE])
        self.assertEqual(ask_of("a f", place(1, [1]), place(2, [1])), [DONE, NO_SUCH_PLACE])

    def test_a_refused_place_leaves_the_one_before(self):
        calls = [seen(0), seen(4), can(4), first(), worlds(), chance(0, (0, 0)), drop([3] * 10)]
        for by_sex in (0, 1):
            before = [place(by_sex, [1, 3]), see(4, (0, 0), (1, 0))]
            expected = ask_of(EXAMPLE, *before, *calls)
            refused = [place(2, [1, 3]), place(LARGEST, [7]), place(0, []), place(1, [1] * 9), place(0, [0]),
                       place(1, [256])]
            found = ask_of(EXAMPLE, *before, *refused, *calls)
            self.assertEqual(found, expected[:2] + [NO_SUCH_PLACE] * len(refused) + expected[2:])

    def test_a_refused_place_tells_none(self):
        self.assertEqual(ask_of(EXAMPLE, place(2, [1]), seen(0), worlds()), [NO_SUCH_PLACE, NO_PLACE, NO_PLACE])

    def test_a_place_told_anew_forgets_what_has_been_seen(self):
        for weights in ([1, 3], [2, 1, 1]):
            calls = [place(1, weights), seen(0), seen(4), can(4), worlds(), chance(4, (0, 0)), first()]
            found = ask_of(EXAMPLE, place(0, [1, 3]), see(4, (0, 0)), see(0), *calls)
            self.assertEqual(found[3:], ask_of(EXAMPLE, *calls))
            self.assertEqual(found[4], told(all_pairs(len(weights))))

    def test_a_family_read_anew_has_no_place(self):
        calls = [see(0, (0, 0)), seen(0), can(0), first(), worlds(), chance(0, (0, 0)), drop([1] * 10)]
        for text in (EXAMPLE, "a f", "a f\nb m"):
            found = ask_of(EXAMPLE, place(0, [1, 3]), see(0, (1, 1)), read(text), *calls)
            self.assertEqual(found[2:], [DONE] + [NO_PLACE] * len(calls))

    def test_what_was_seen_of_the_family_before_is_forgotten(self):
        found = ask_of(EXAMPLE, place(0, [1]), see(0), read(EXAMPLE), place(0, [1]), seen(0), first())
        self.assertEqual(found[4:], [told([(0, 0)]), (-1, [], "")])

    def test_a_refused_read_leaves_place_and_what_has_been_seen(self):
        calls = [seen(0), seen(4), worlds(), chance(0, (0, 0)), drop([2] * 10)]
        before = [place(1, [1, 3]), see(4, (0, 0))]
        for text in ("a", "a f\na f", "a f b c", "b m b a\na f", "a" * 17000):
            found = ask_of(EXAMPLE, *before, read(text), *calls)
            self.assertLess(found[2][0], 0)
            self.assertEqual(found[:2] + found[3:], ask_of(EXAMPLE, *before, *calls))


class Seen(unittest.TestCase):
    def ask(self, *calls):
        return ask_of(EXAMPLE, place(0, [1, 3, 2]), *calls)[1:]

    def test_nothing_has_been_seen(self):
        for by_sex in (0, 1):
            found = ask_of(EXAMPLE, place(by_sex, [5, 1]), *[seen(i) for i in range(5)])
            self.assertEqual(found[1:], [told([(0, 0), (0, 1), (1, 0), (1, 1)])] * 5)

    def test_the_order_is_by_p_then_by_m(self):
        self.assertEqual(self.ask(see(2, (2, 1), (0, 2), (2, 0), (1, 1), (0, 1)), seen(2)), [
            DONE, told([(0, 1), (0, 2), (1, 1), (2, 0), (2, 1)])])

    def test_pairs_are_not_turned_round(self):
        self.assertEqual(self.ask(see(2, (2, 1)), seen(2), can(2)), [DONE, told([(2, 1)]), told([(2, 1)])])

    def test_told_twice(self):
        self.assertEqual(self.ask(see(2, (1, 0), (0, 0), (1, 0), (1, 0)), seen(2)), [DONE, told([(0, 0), (1, 0)])])

    def test_kinds_that_there_are_not(self):
        odd = [(3, 0), (0, 3), (3, 3), (LARGEST, 1), (1, LARGEST), (8, 8)]
        self.assertEqual(self.ask(see(2, *odd, (2, 2)), seen(2)), [DONE, told([(2, 2)])])
        self.assertEqual(self.ask(see(2, *odd), seen(2)), [DONE, (0, [], "")])

    def test_no_pairs_at_all(self):
        self.assertEqual(self.ask(see(2), seen(2), can(0), worlds()), [DONE, (0, [], ""), (0, [], ""), (0, [0], "")])

    def test_all_pairs(self):
        pairs = all_pairs(3)
        self.assertEqual(self.ask(see(2, *reversed(pairs)), seen(2)), [DONE, told(pairs)])

    def test_seeing_anew_takes_the_place_of_what_was(self):
        found = self.ask(see(2, (0, 0), (1, 1)), see(2, (1, 2)), seen(2), see(2), seen(2), see(2, (0, 0)), seen(2))
        self.assertEqual(found, [DONE, DONE, told([(1, 2)]), DONE, (0, [], ""), DONE, told([(0, 0)])])

    def test_of_one_person_alone(self):
        found = self.ask(see(2, (0, 0)), see(4), seen(0), seen(1), seen(2), seen(3), seen(4))
        pairs = told(all_pairs(3))
        self.assertEqual(found[2:], [pairs, pairs, told([(0, 0)]), pairs, (0, [], "")])

    def test_of_a_man_by_sex_as_told(self):
        found = ask_of(EXAMPLE, place(1, [1, 1]), see(1, (1, 0), (0, 0)), seen(1), can(1))
        self.assertEqual(found[2:], [told([(0, 0), (1, 0)]), told([(0, 0)])])

    def test_seeing_changes_nothing_else(self):
        found = self.ask(see(2, (0, 0)), can(0), can(2), first(), worlds(), chance(2, (0, 0)), seen(2), seen(0))
        self.assertEqual(found[6:], [told([(0, 0)]), told(all_pairs(3))])

    def test_as_many_numbers_as_may_be(self):
        choose = random.Random(5)
        pairs = [(choose.randrange(9), choose.randrange(9)) for turn in range(500)]
        kept = sorted({pair for pair in pairs if max(pair) < 8})
        found = ask_of(EXAMPLE, place(0, [1] * 8), see(3, *pairs), seen(3))
        self.assertEqual(found[1:], [DONE, told(kept)])


if __name__ == "__main__":
    unittest.main()
