"""Promise 5: a text is read in one way, or refused with the first fault and its place."""

import random
import re
import unittest

from tests.asking import EXAMPLE, ask, find, kin, people, person, read, tie

NAME = "[A-Za-z][A-Za-z0-9]{0,14}"
LINE = f"{NAME} [fm](?: {NAME} {NAME})?"
BEGUN_LINE = f"(?:{NAME}(?: (?:[fm](?: (?:{NAME}(?: (?:{NAME})?)?)?)?)?)?)?"
BEGUN_TEXT = re.compile(f"(?:{LINE}\n)*{BEGUN_LINE}")
WHOLE_TEXT = re.compile(f"(?:{LINE}\n)*(?:{LINE})?")


def names(count):
    return [f"n{i}" for i in range(count)]


def crowd(count):
    """So many women without parents told."""
    return "".join(f"{name} f\n" for name in names(count))


class Faults(unittest.TestCase):
    def check(self, text, number, place):
        with self.subTest(text=text):
            self.assertEqual(ask(read(text)), [(number, [place], "")])

    def check_good(self, text, count):
        with self.subTest(text=text):
            self.assertEqual(ask(read(text), people()), [(0, [], ""), (count, [], "")])


class WrongTexts(Faults):
    def test_of_the_document(self):
        self.check("a f\n\n", -2, 4)
        self.check("a x", -2, 2)
        self.check("ab", -2, 2)

    def test_no_bytes(self):
        self.check_good("", 0)

    def test_the_last_newline(self):
        self.check_good("a f", 1)
        self.check_good("a f\n", 1)
        self.check_good("a f\nb m", 2)
        self.check_good("a f\nb m\nc f b a", 3)
        self.check_good("a f\nb m\nc f b a\n", 3)

    def test_newlines_with_nothing_between(self):
        self.check("\n", -2, 0)
        self.check("\n\n", -2, 0)
        self.check("\na f", -2, 0)
        self.check("a f\n\nb m", -2, 4)
        self.check("a f\nb m\nc f b a\n\n", -2, 16)

    def test_only_not_at_its_end(self):
        for text in ("a", "a ", "a f ", "a f b", "a f b ", "a f\nb", "a f\nb ", "a f\nb m b", "a f\nb m b "):
            self.check(text, -2, len(text))

    def test_a_line_ends_too_soon(self):
        for text in ("a", "a ", "a f ", "a f b", "a f b "):
            self.check(text + "\n", -2, len(text))
            self.check(text + "\nb m", -2, len(text))

    def test_a_line_goes_on_too_long(self):
        self.check("a f b c d", -2, 7)
        self.check("a f b c ", -2, 7)
        self.check("a f b c f", -2, 7)
        self.check("a ff", -2, 3)
        self.check("a fm", -2, 3)
        self.check("a f1", -2, 3)

    def test_blanks_elsewhere(self):
        self.check(" a f", -2, 0)
        self.check("a  f", -2, 2)
        self.check("a f  b c", -2, 4)
        self.check("a f b  c", -2, 6)
        self.check("a f \n", -2, 4)
        self.check("a\tf", -2, 1)
        self.check("a f\r\n", -2, 3)

    def test_sexes(self):
        for sign in "FMxw1 \n":
            self.check(f"a {sign}", -2, 2)

    def test_the_first_sign_of_a_name_is_a_letter(self):
        self.check("1 f", -2, 0)
        self.check("1a f", -2, 0)
        self.check("a f 1 c", -2, 4)
        self.check("a f b 1", -2, 6)
        self.check_good("a1 f\nA1 f\nz9Z0 f\nZ f", 4)

    def test_each_byte_in_a_name(self):
        letters = [byte for byte in range(256) if bytes([byte]).isalpha()]
        digits = [byte for byte in range(256) if bytes([byte]).isdigit()]
        for byte in range(256):
            first = ask(read([byte, 32, 102]))
            self.assertEqual(first, [(0, [], "")] if byte in letters else [(-2, [0], "")])
            second = ask(read([97, byte, 32, 102]))
            if byte == 32:
                self.assertEqual(second, [(-2, [2], "")])
            else:
                self.assertEqual(second, [(0, [], "")] if byte in letters + digits else [(-2, [1], "")])

    def test_names_of_15_and_16_signs(self):
        long_name = "abcdefghijklmno"
        self.check_good(f"{long_name} f", 1)
        self.check(f"{long_name}p f", -2, 15)
        self.check(f"{long_name}1", -2, 15)
        self.check(long_name, -2, 15)
        self.check_good(f"{long_name} m\nb f\nc f {long_name} b", 3)
        self.check_good(f"b m\n{long_name} f\nc f b {long_name}", 3)
        self.check(f"c f {long_name}p b", -2, 19)
        self.check(f"c f b {long_name}p", -2, 21)

    def test_against_regular_expressions(self):
        choose = random.Random(5)
        for turn in range(3000):
            text = self.spoiled(choose)
            found = ask(read(text))[0]
            if WHOLE_TEXT.fullmatch(text):
                self.assertNotEqual(found[0], -2, text)
            else:
                place = next((k for k in range(len(text)) if not BEGUN_TEXT.fullmatch(text[:k + 1])), len(text))
                self.assertEqual(found, (-2, [place], ""), text)

    def spoiled(self, choose):
        text = choose.choice((EXAMPLE, "abcdefghijklmno f\nb m\nc1 m b abcdefghijklmno", "a f", "a m b c\n"))
        text = text[:choose.randrange(len(text) + 1)]
        for change in range(choose.randrange(4)):
            at = choose.randrange(len(text) + 1)
            text = text[:at] + choose.choice("afm1Z \n\n  ~\x00\xe9") + text[at + choose.randrange(2):]
        return text


class Crowds(Faults):
    def test_the_64th_and_the_65th(self):
        self.check_good(crowd(64), 64)
        self.check(crowd(65), -3, len(crowd(64)))
        self.check(crowd(65)[:-1], -3, len(crowd(64)))
        self.check(crowd(100), -3, len(crowd(64)))

    def test_a_name_that_an_earlier_line_has(self):
        self.check("a f\na m", -4, 4)
        self.check("a f\nb m\na f\nb m", -4, 8)
        self.check("a f\nb m\nc f b a\nb m b a", -4, 16)
        self.check_good("a f\nA f\na1 f\na11 f", 4)

    def test_the_first_of_both_line_by_line(self):
        self.check(crowd(64) + "n0 f", -3, len(crowd(64)))
        self.check(crowd(65) + "n0 f", -3, len(crowd(64)))
        self.check(crowd(63) + "n0 f", -4, len(crowd(63)))
        self.check(crowd(63) + "n0 f\nx f\ny f", -4, len(crowd(63)))
        self.check("n5 f\n" + crowd(80), -4, len("n5 f\n" + crowd(5)))


class Parents(Faults):
    def test_a_name_that_no_line_has(self):
        self.check("a f b c", -5, 4)
        self.check("b m\na f b c", -5, 10)
        self.check("c f\na f b c", -5, 8)
        self.check("b m\nc f\na f b C", -5, 14)
        self.check("b m\nc f\na f b c1", -5, 14)

    def test_a_father_is_a_man_and_a_mother_a_woman(self):
        self.check("b m\nc f\na f c b", -5, 12)
        self.check("b m\nd m\na f b d", -5, 14)
        self.check("c f\nd f\na f c d", -5, 12)
        self.check("b m\na f b b", -5, 10)
        self.check("c f\na f c c", -5, 8)

    def test_the_first_line_by_line_and_the_father_before_the_mother(self):
        self.check("a f x y\nb f z w", -5, 4)
        self.check("m1 m\nf1 f\na f m1 m1\nb f f1 f1", -5, 17)
        self.check("m1 m\nf1 f\na f m1 f1\nb f f1 m1", -5, 24)
        self.check("m1 m\nf1 f\na f f1 y\nb f x f1", -5, 14)

    def test_parents_on_later_lines(self):
        self.check_good("a f b c\nb m\nc f", 3)
        self.check("a f b c\nb f\nc m", -5, 4)


class OwnForebears(Faults):
    def test_of_the_document(self):
        self.check("b m b a\na f", -6, 0)

    def test_as_the_mother(self):
        self.check("b m\na f b a", -6, 4)

    def test_over_several_steps(self):
        self.check("w f\nx m y w\ny m z w\nz m x w", -6, 4)
        self.check("x m\na f x c\nb f x a\nc f x b", -6, 4)

    def test_who_only_descends_from_such_is_none(self):
        # k comes from them, but nobody comes from k.
        self.check("k f b a\na f\nb m b a", -6, 12)
        self.check("k f l a\nl m b a\na f\nc f b a\nb m d a\nd m b a", -6, 28)

    def test_the_first_of_several(self):
        self.check("a f\nd m d a\nb m b a", -6, 4)

    def test_no_fault_where_lines_only_meet_again(self):
        self.check_good("a f\nb m\nc f b a\nd f b c\ne f b d", 5)

    def test_64_in_a_ring(self):
        ring = "w f\n" + "\n".join(f"m{i} m m{(i + 1) % 63} w" for i in range(63))
        self.check(ring, -6, 4)


class WhichFaultFirst(Faults):
    def test_a_wrong_text_before_all(self):
        self.check("a f\na m\nb m b a\nc f x y\n\n", -2, 24)
        self.check(crowd(70) + "x", -2, len(crowd(70)) + 1)

    def test_persons_before_parents(self):
        self.check("a f x y\nb m\nb m", -4, 12)
        self.check("a f x y\n" + crowd(64), -3, len("a f x y\n" + crowd(63)))

    def test_parents_before_forebears(self):
        self.check("b m b a\na f\nc f b b", -5, 18)
        self.check("b m b a\na f\nc f x a", -5, 16)


class LongTexts(Faults):
    def test_16384_bytes_and_more(self):
        long_line = "abcdefghijklmno f\n"
        text = long_line * 911
        text = text[:16384]
        self.assertEqual(len(text), 16384)
        self.check(text, -2, 16384)
        self.assertEqual(ask(read(text + "f")), [(-1, [], "")])
        self.assertEqual(ask(read("x" * 17000)), [(-1, [], "")])
        self.assertEqual(ask(read("\n" * 16385)), [(-1, [], "")])
        self.check("\n" * 16384, -2, 0)

    def test_16384_bytes_of_good_lines(self):
        lines = "".join(f"n{i:04} f\n" for i in range(2048))
        self.assertEqual(len(lines), 16384)
        self.check(lines, -3, 64 * 8)

    def test_the_longest_family(self):
        names_of_15 = [f"name{i:02}abcdefghi" for i in range(64)]
        lines = [f"{names_of_15[0]} f", f"{names_of_15[1]} m"]
        lines += [f"{name} f {names_of_15[1]} {names_of_15[0]}" for name in names_of_15[2:]]
        self.check_good("\n".join(lines) + "\n", 64)


class WhatIsRead(unittest.TestCase):
    def test_persons_in_the_order_of_the_lines(self):
        found = ask(read("eve f cid dot\ncid m\ndot f\n"), people(), person(0), person(1), person(2))
        self.assertEqual(found[1:], [
            (3, [], ""), (3, [0, 1, 2], "eve"), (3, [1], "cid"), (3, [0], "dot")])

    def test_names_are_found_as_they_stand(self):
        found = ask(read("a f\nA m\nab f A a"), find("a"), find("A"), find("ab"), find("aB"), find("b"), find(""),
                    find("a "), find("a f"), find("\n"), find("x" * 17000))
        self.assertEqual([answer[0] for answer in found[1:]], [0, 1, 2, -1, -1, -1, -1, -1, -1, -1])
        self.assertTrue(all(answer[1:] == ([], "") for answer in found))

    def test_the_64th_person(self):
        found = ask(read(crowd(64)), person(63), find("n63"), person(64), kin(63, 63), tie(63, 62))
        self.assertEqual(found[1:], [
            (3, [0], "n63"), (63, [], ""), (-2, [], ""), (0, [1, 1], ""), (0, [], "")])


if __name__ == "__main__":
    unittest.main()
