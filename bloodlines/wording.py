"""How a family's text is worded: its lines, and the first byte that spoils it."""

NEWLINE = 10
BLANK = 32
WOMAN_SIGN = 102
MAN_SIGN = 109
WOMAN = 0
MAN = 1
LONGEST_NAME = 15

# The parts of a line, in their order; a line may end behind SEX or MOTHER.
OWN_NAME = 0
SEX = 1
FATHER = 2
MOTHER = 3


class Word:
    """A word of a text: the place of its first byte, and its bytes as a tuple."""

    def __init__(self, place, signs):
        self.place = place
        self.signs = signs


class Line:
    """A line of a text: its name, WOMAN or MAN, and no parents or the father's and the mother's name."""

    def __init__(self, words):
        self.name = words[OWN_NAME]
        self.sex = MAN if words[SEX].signs == (MAN_SIGN,) else WOMAN
        self.parents = words[FATHER:]


def is_letter(byte):
    return 65 <= byte <= 90 or 97 <= byte <= 122


def is_digit(byte):
    return 48 <= byte <= 57


def lengthens(part, length, byte):
    """Whether the byte may belong to the part, of which there are length bytes so far."""
    if part == SEX:
        return length == 0 and byte in (WOMAN_SIGN, MAN_SIGN)
    if length == 0:
        return is_letter(byte)
    return length < LONGEST_NAME and (is_letter(byte) or is_digit(byte))


def closes(part, length, byte):
    """Whether the byte may stand behind the part, of which there are length bytes."""
    if length == 0:
        return False
    if byte == NEWLINE:
        return part in (SEX, MOTHER)
    return byte == BLANK and part != MOTHER


def may_end(part, length):
    """Whether a text may end with length bytes of the part."""
    if part == OWN_NAME:
        return length == 0
    return length > 0 and part in (SEX, MOTHER)


def spoiled_at(text):
    """The first byte behind which nothing makes a text, the length if only the end is missing, or None."""
    part = OWN_NAME
    length = 0
    for place, byte in enumerate(text):
        if lengthens(part, length, byte):
            length += 1
        elif closes(part, length, byte):
            part = OWN_NAME if byte == NEWLINE else part + 1
            length = 0
        else:
            return place
    if may_end(part, length):
        return None
    return len(text)


def words_between(text, start, end):
    """The words of the line that begins at start and ends before end."""
    words = []
    word_start = start
    for place in range(start, end + 1):
        if place == end or text[place] == BLANK:
            words.append(Word(word_start, tuple(text[word_start:place])))
            word_start = place + 1
    return words


def lines_of(text):
    """The lines of a text that nothing spoils."""
    lines = []
    start = 0
    for place, byte in enumerate(text):
        if byte == NEWLINE:
            lines.append(Line(words_between(text, start, place)))
            start = place + 1
    if start < len(text):
        lines.append(Line(words_between(text, start, len(text))))
    return lines
