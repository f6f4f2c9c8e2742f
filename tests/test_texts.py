"""Tests of families and words as texts: points [2], [10] and [11], and the interface under texts.py."""

import random

import reckoning
from drawn import by_hand, drawn
from growthkinds.errors import BadText, BadWord, GrowthError
from growthkinds.families import Family
from growthkinds.texts import family_text, read_family, word_text
from samples import DOWN, FOUR, ROUND, SIDE, UP, Odd, RefusalCase, nested, no_numbers, strange

# How long the lines of each text are that a family can have.
SHAPES = [(([many] * many + [0]) * count)[:-1] for many in range(1, 5) for count in range(1, 4)]
SIGNS = [chr(number) for number in range(32, 127) if chr(number) not in "%"]


def fits(line, long):
    """Tell whether a line consists of so many figures."""
    return len(line) == long and all(sign in "0123456789" for sign in line)


def first_wrong(text):
    """The number of the line with which a text is refused, or None, by all shapes that there are."""
    lines = text.split("\n")
    shapes = SHAPES
    for at, line in enumerate(lines):
        shapes = [shape for shape in shapes if at < len(shape) and fits(line, shape[at])]
        if not shapes:
            return at + 1
    return None if len(lines) in [len(shape) for shape in shapes] else len(lines) + 1


def families():
    """List the tables of the families that are looked at."""
    return [tables for tables, _ in by_hand()] + drawn(121, 300)


class TextCase(RefusalCase):

    def judged(self, text):
        """Compare what is read with what the document says of a text, and tell that."""
        wanted = first_wrong(text)
        if wanted is None:
            self.assertEqual(family_text(read_family(text)), text)
        else:
            self.wrong(text, wanted)
        return wanted

    def wrong(self, text, line):
        """Check that a text is refused with a line."""
        with self.assertRaises(BadText) as caught:
            read_family(text)
        self.assertIs(type(caught.exception), BadText)
        self.assertEqual(caught.exception.line, line)
        self.assertIs(type(caught.exception.line), int)


class FamilyTextTest(TextCase):

    def test_the_example_of_the_document(self):
        self.assertEqual(family_text(Family([((1, 3), (0, 1))])), "13\n01")

    def test_by_hand(self):
        self.assertEqual(family_text(Family([((7,),)])), "7")
        self.assertEqual(family_text(Family([((7,),), ((0,),), ((9,),)])), "7\n\n0\n\n9")
        self.assertEqual(family_text(Family([UP, DOWN])), "01\n00\n\n00\n20")
        self.assertEqual(family_text(Family([FOUR, FOUR])), "9999\n9999\n9999\n9999\n\n9999\n9999\n9999\n9999")
        self.assertEqual(family_text(Family([((1, 2, 3), (4, 5, 6), (7, 8, 9))])), "123\n456\n789")

    def test_there_and_back(self):
        for tables in families():
            with self.subTest(tables=tables):
                text = family_text(Family(tables))
                self.assertIs(type(text), str)
                self.assertEqual(text, "\n\n".join("\n".join("".join(map(str, row)) for row in table) for table in tables))
                told = read_family(text)
                self.assertIs(type(told), Family)
                self.assertEqual((told.tables, told.many), (tables, len(tables[0])))
                self.assertEqual({type(entry) for table in told.tables for row in table for entry in row}, {int})
                self.assertEqual({type(row) for table in told.tables for row in table} | {type(told.tables[0])}, {tuple})

    def test_by_names(self):
        self.assertEqual(family_text(family=Family([SIDE])), "13\n01")
        self.assertEqual(read_family(text="13\n01"), Family([SIDE]))


class ReadFamilyTest(TextCase):

    def test_no_text(self):
        wrong = [thing for thing in strange() if type(thing) is not str]
        for thing in wrong + [0, 1, 10 ** 999, (), ("13\n01",), ["13", "01"], b"13\n01", nested(50), ROUND]:
            with self.subTest(thing=type(thing).__name__):
                self.refused(BadText, "line", None, read_family, thing)
                self.refused(BadText, "line", None, read_family, text=thing)

    def test_by_hand(self):
        wrong = {
            "": 1, "\n": 1, "\n\n": 1, "\n1": 1, "\n13\n01": 1, " ": 1, "a": 1, "-1": 1, "12345": 1, "1 ": 1, " 1": 1, "1.": 1,
            "12345\n12345\n12345\n12345\n12345": 1, "13 \n01": 1, "1,3": 1, "1a": 1,
            "1\n": 3, "1\n\n": 3, "1\n1": 2, "1\n ": 2, "1\n\n2\n": 5, "1\n\n2\n\n3\n": 6, "1\n\n2\n\n3\n\n": 6,
            "1\n\n2\n\n3\n\n4": 6, "1\n\n2\n\n3\n4": 6, "1\n\n\n2": 3, "1\n\n12": 3, "1\n\n2\n\n34": 5,
            "13": 2, "13\n": 2, "13\n01\n": 4, "13\n01\n\n": 4, "13\n01\n13": 3, "13\n01\n\n13": 5, "13\n01\n\n13\n": 5,
            "13\n0": 2, "13\n011": 2, "13\n 1": 2, "13\n0a": 2, "13\n\n01": 2, "13\n01\n\n\n13\n01": 4, "13\n01\n\n1\n2": 4,
            "13\n01\n\n123\n456\n789": 4, "13\n01\n\n13\n01\n\n13\n01\n": 9, "13\n01\n\n13\n01\n\n13\n01\n\n13\n01": 9,
            "13\n01\n\n13\n01\n\n13\n01\n13": 9, "13\n01\n\n13\n01\n\n13": 8, "13\n01\n\n13\n01\n\n": 7,
            "1234\n1234\n1234": 4, "1234\n1234\n1234\n1234\n1234": 5, "1234\n1234\n1234\n123": 4, "123\n456\n78": 3,
        }
        for text, line in wrong.items():
            with self.subTest(text=text):
                self.wrong(text, line)
                self.assertEqual(first_wrong(text), line)

    def test_a_fourth_table(self):
        for many in range(1, 5):
            table = "\n".join(["1" * many] * many)
            self.assertEqual(len(read_family("\n\n".join([table] * 3))), 3)
            self.wrong("\n\n".join([table] * 4), 3 * many + 3)
            self.wrong("\n\n".join([table] * 5), 3 * many + 3)

    def test_rows_of_unlike_lengths(self):
        draw = random.Random(122)
        for _ in range(400):
            lengths = [draw.randrange(1, 6) for _ in range(draw.randrange(1, 7))]
            self.judged("\n".join("7" * long for long in lengths))

    def test_lines_left_out_doubled_and_turned_about(self):
        seen = set()
        for tables in families()[:150]:
            lines = family_text(Family(tables)).split("\n")
            texts = [lines[:at] + lines[at + 1:] for at in range(len(lines))]
            texts += [lines[:at] + [line] + lines[at:] for at, line in enumerate(lines)]
            texts += [lines[:at] + [""] + lines[at:] for at in range(len(lines) + 1)]
            texts += [lines[:at] + ["", ""] + lines[at:] for at in range(len(lines) + 1)]
            texts += [lines[:at] + lines[at:at + 2][::-1] + lines[at + 2:] for at in range(len(lines))]
            texts += [lines[:at] for at in range(1, len(lines))] + [lines[at:] for at in range(1, len(lines))]
            texts += [lines + [""] + lines, lines + lines, lines[::-1], lines + [""], [""] + lines, lines + ["", ""]]
            texts += [lines[:at] + [line[:-1]] + lines[at + 1:] for at, line in enumerate(lines)]
            texts += [lines[:at] + [line + "0"] + lines[at + 1:] for at, line in enumerate(lines)]
            for some in texts:
                with self.subTest(text=some):
                    seen.add(self.judged("\n".join(some)))
        self.assertLessEqual({None} | set(range(1, 16)), seen)

    def test_other_signs(self):
        draw = random.Random(123)
        for tables in families()[:60]:
            text = family_text(Family(tables))
            for at in range(len(text)):
                for sign in draw.sample(SIGNS, 6) + ["\n"]:
                    with self.subTest(text=text, at=at, sign=sign):
                        self.judged(text[:at] + sign + text[at + 1:])
                        self.judged(text[:at] + sign + text[at:])
                self.judged(text[:at] + text[at + 1:])
        for sign in SIGNS:
            self.judged(sign)
            self.judged("13\n0" + sign)
            self.judged("1\n" + sign)

    def test_drawn_texts(self):
        draw = random.Random(124)
        good = 0
        for _ in range(4000):
            many = draw.randrange(1, 3)
            lines = [draw.choice(("0" * many, "9" * many, "0" * many, "", draw.choice(("1", "12", "a", "x1"))))
                     for _ in range(draw.randrange(1, 9))]
            good += self.judged("\n".join(lines)) is None
        self.assertGreater(good, 100)

    def test_long_texts(self):
        self.wrong("1" * 30000, 1)
        self.wrong("\n" * 30000, 1)
        self.wrong("1\n\n" * 10000, 6)
        self.wrong("12\n34\n\n" * 4000, 9)
        self.wrong("12\n34\n\n" + "5" * 20000, 4)

    def test_a_refusal_is_a_growth_error(self):
        with self.assertRaises(GrowthError):
            read_family("x")


class WordTextTest(RefusalCase):

    def test_by_hand(self):
        family = Family([UP, DOWN, SIDE])
        self.assertEqual(word_text(family, ()), "-")
        self.assertEqual(word_text(family, (0,)), "a")
        self.assertEqual(word_text(family, (1,)), "b")
        self.assertEqual(word_text(family, (2,)), "c")
        self.assertEqual(word_text(family, (2, 0, 1, 1)), "cabb")
        self.assertEqual(word_text(Family([UP]), ()), "-")
        self.assertEqual(word_text(family, (0, 1) * 200), "ab" * 200)

    def test_all_short_words(self):
        for tables in ([UP], [UP, DOWN], [SIDE] * 3):
            for long in range(1, 5):
                for word in reckoning.words_of(tables, long):
                    told = word_text(Family(tables), word)
                    self.assertIs(type(told), str)
                    self.assertEqual(told, "".join({0: "a", 1: "b", 2: "c"}[number] for number in word))

    def test_no_words(self):
        for tables in ([UP], [UP, DOWN], [SIDE] * 3):
            wrong = strange() + [0, -1, [], [0], nested(1), nested(50), (len(tables),), (-1,), (0,) * 401, "a", "-", (Odd(),)]
            for thing in wrong + [(0, thing) for thing in no_numbers(len(tables))]:
                with self.subTest(thing=str(thing)[:100]):
                    self.refused(BadWord, "value", thing, word_text, Family(tables), thing)
                    self.refused(BadWord, "value", thing, word_text, word=thing, family=Family(tables))

    def test_by_names(self):
        self.assertEqual(word_text(word=(0, 1), family=Family([UP, DOWN])), "ab")
