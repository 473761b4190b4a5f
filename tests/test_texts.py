"""[2.1] to [2.5]: towns, counts and fractions as texts."""

import random
import unittest
from fractions import Fraction

from greenheld.texts import (added_counts, counts_text, crossing_text, fraction_text, is_counts, read_counts,
                             read_crossing, read_fraction, read_town, scaled_counts, town_text)
from tests.reading import Language, changes, place_told
from tests.support import EAST, ODD_VALUES, TOWN, plain_int, same, towns, within

NUMBER = "(?:0|[1-9][0-9]{0,8})"
LINES = f"(?:\nmove {NUMBER} to (?:out|{NUMBER}))*(?:\ncross {NUMBER} {NUMBER} clear {NUMBER} {NUMBER})*"
LONG = "[1-9][0-9]{0,59}"
LANGUAGES = {
    read_crossing: Language(f"crossing {NUMBER}{LINES}", (
        "crossing 1", "crossing 1\nmove 1 to out", "crossing 1\nmove 1 to 1", "crossing 1\ncross 1 1 clear 1 1")),
    read_town: Language(f"queues {NUMBER}(?:\ncrossing {NUMBER}{LINES})*", (
        "queues 1", "queues 1\ncrossing 1", "queues 1\ncrossing 1\nmove 1 to out", "queues 1\ncrossing 1\nmove 1 to 1",
        "queues 1\ncrossing 1\ncross 1 1 clear 1 1")),
    read_counts: Language(f"counts {NUMBER}(?: {NUMBER})*", ("counts 1", "counts 1 1")),
    read_fraction: Language(f"(?:0|-?{LONG})(?:/{LONG})?", ("-1", "1/1")),
}
WRITERS = {read_crossing: crossing_text, read_town: town_text, read_counts: counts_text, read_fraction: fraction_text}


class Reading(unittest.TestCase):
    def read_or_refused(self, read, text):
        told = place_told(read, text)
        if not LANGUAGES[read].can_be_read(text):
            self.assertTrue(same(told, LANGUAGES[read].place(text)), (text, told))
        elif read is read_fraction and fraction_text(plain_fraction(text)) != text:
            self.assertTrue(same(told, 0), (text, told))
        else:
            self.assertIsNone(told, text)
            self.assertEqual(WRITERS[read](read(text)), text)

    def test_texts_with_one_sign_changed(self):
        samples = {
            read_crossing: ["crossing 12\nmove 0 to out\nmove 10 to 2\ncross 0 1 clear 30 4\ncross 3 12 clear 0 5", "crossing 0"],
            read_town: [town_text((2, ((((0, 1),), (), 7), (((1, None), (1, 0)), ((0, 1, 2, 3),), 7)))), "queues 24"],
            read_counts: ["counts 3 0 12", "counts 0", "counts 120"],
            read_fraction: ["0", "-7", "13/5", "-13/50", "4/9"],
        }
        for read in samples:
            for text in samples[read]:
                for changed in [text] + changes(text, "\n 0-9/c"):
                    self.read_or_refused(read, changed)

    def test_short_texts_of_few_signs(self):
        words = ("queues ", "\n", "crossing ", "cross ", "move ", "0", "1", " to ", "out", " ", " clear ", "counts ", "-", "/")
        chance = random.Random(1)
        for _ in range(3000):
            text = "".join(chance.choice(words) for _ in range(chance.randint(0, 7)))
            for read in LANGUAGES:
                self.read_or_refused(read, text)

    def test_behind_cross_no_move(self):
        text = "queues 3\ncrossing 12\ncross 0 1 clear 2 3"
        self.assertEqual(place_told(read_town, text + "\nmove 0 to 1"), len(text) + 1)
        self.assertEqual(place_told(read_town, text + "\ncross"), len(text) + 6)
        self.assertEqual(place_told(read_town, text + "\ncrossx"), len(text) + 6)
        self.assertEqual(read_town(text + "\ncrossing 5\nmove 0 to 1"),
                         (3, (((), ((0, 1, 2, 3),), 12), (((0, 1),), (), 5))))
        self.assertEqual(place_told(read_crossing, "crossing 5\ncrossing 6"), 16)
        text = "crossing 5\nmove 0 to 1\ncross 0 1 clear 2 3"
        self.assertEqual(read_crossing(text), (((0, 1),), ((0, 1, 2, 3),), 5))
        for more, signs in (("\nmove 0 to 1", 1), ("\nmov", 1), ("\nc", 2), ("\ncrossing 5", 6), ("\n", 1), (" ", 0)):
            self.assertEqual(place_told(read_crossing, text + more), len(text) + signs, more)

    def test_no_text(self):
        for read in LANGUAGES:
            for value in ODD_VALUES:
                if not isinstance(value, str):
                    self.assertTrue(same(place_told(read, value), 0), value)
                else:
                    self.read_or_refused(read, value)
            self.assertEqual(place_told(read, ""), 0)

    def test_line_feeds_and_blanks(self):
        for text, place in (("queues 3\n", 9), ("\nqueues 3", 0), ("queues  3", 7), ("queues 3 ", 8), ("queues 3\n\n", 9),
                            (" queues 3", 0), ("queues\t3", 6), ("queues 3\r\n", 8), ("Queues 3", 0)):
            self.assertEqual(place_told(read_town, text), place, text)
        for text, place in (("counts", 6), ("counts ", 7), ("counts 3 ", 9), ("counts 3  4", 9), ("counts 3,4", 8), ("counts x", 7)):
            self.assertEqual(place_told(read_counts, text), place, text)

    def test_nine_digits_and_ten(self):
        nine, ten = "9" * 9, "9" * 10
        self.assertEqual(read_town("queues " + nine), (10 ** 9 - 1, ()))
        self.assertEqual(place_told(read_town, "queues " + ten), 16)
        self.assertEqual(read_crossing(f"crossing {nine}\nmove {nine} to {nine}\ncross {nine} {nine} clear {nine} {nine}"),
                         (((10 ** 9 - 1,) * 2,), ((10 ** 9 - 1,) * 4,), 10 ** 9 - 1))
        text = f"crossing 1\nmove {ten} to 1"
        self.assertEqual(place_told(read_crossing, text), 25)
        self.assertEqual(read_counts("counts " + nine + " 0"), (10 ** 9 - 1, 0))
        self.assertEqual(place_told(read_counts, "counts 1 " + ten), 18)

    def test_needless_noughts(self):
        self.assertEqual(place_told(read_town, "queues 00"), 8)
        self.assertEqual(place_told(read_town, "queues 01"), 8)
        self.assertEqual(place_told(read_counts, "counts 3 07"), 10)
        self.assertEqual(place_told(read_crossing, "crossing 1\nmove 0 to 00"), 22)

    def test_what_is_read_need_be_no_town(self):
        self.assertEqual(read_town("queues 0\ncrossing 0\ncross 5 5 clear 99 99\ncross 1 0 clear 0 0\ncrossing 7\nmove 3 to 3"),
                         (0, (((), ((5, 5, 99, 99), (1, 0, 0, 0)), 0), (((3, 3),), (), 7))))
        many = "queues 2" + "\ncrossing 1\nmove 0 to out\nmove 0 to out" * 150
        self.assertEqual(read_town(many), (2, ((((0, None), (0, None)), (), 1),) * 150))

    def test_long_texts(self):
        text = "queues 1" + "\ncrossing 9" * 700
        self.assertEqual(len(read_town(text)[1]), 700)
        self.assertEqual(place_told(read_town, text + "x"), len(text))
        self.assertEqual(len(read_counts("counts" + " 1" * 3900)), 3900)


class Writing(unittest.TestCase):
    def test_lines(self):
        self.assertEqual(crossing_text(EAST), "crossing 12\nmove 0 to 2\nmove 1 to out\nmove 1 to 2\n"
                                              "cross 0 1 clear 2 3\ncross 0 2 clear 1 1")
        self.assertEqual(town_text(TOWN), "queues 4\n" + crossing_text(EAST)
                         + "\ncrossing 12\nmove 2 to out\nmove 3 to 2\ncross 0 1 clear 0 0")
        self.assertEqual([town_text((0, ())), crossing_text(((), (), 5))], ["queues 0", "crossing 5"])

    def test_written_and_read_again(self):
        for town in [TOWN] + towns(80, seed=1):
            self.assertTrue(same(read_town(town_text(town)), town))
            for crossing in town[1]:
                self.assertTrue(same(read_crossing(crossing_text(crossing)), crossing))

    def test_the_text_of_a_town_is_that_of_its_crossings(self):
        for town in towns(20, seed=2):
            self.assertEqual(town_text(town), "\n".join([f"queues {town[0]}"] + [crossing_text(c) for c in town[1]]))


class Counts(unittest.TestCase):
    def test_written_and_read_again(self):
        chance = random.Random(2)
        for _ in range(100):
            counts = tuple(chance.randint(0, 10 ** chance.randint(0, 9) - 1) for _ in range(chance.randint(1, 24)))
            self.assertTrue(same(read_counts(counts_text(counts)), counts))
        self.assertEqual(counts_text((7,)), "counts 7")

    def test_is_counts(self):
        for town in [TOWN] + towns(10, seed=3):
            right = tuple(range(town[0]))
            self.assertIs(is_counts(town, right), True)
            self.assertIs(is_counts(town, (0,) * town[0]), True)
            self.assertIs(is_counts(town, (10 ** 60,) * town[0]), True)
            for value in list(ODD_VALUES) + within(right) + [list(right), right + (0,), right[1:]]:
                told = type(value) is tuple and len(value) == town[0] and all(plain_int(m) and m >= 0 for m in value)
                self.assertIs(is_counts(town, value), told, value)

    def test_scaled_and_added(self):
        self.assertTrue(same(scaled_counts((1, 0, 5), 3), (3, 0, 15)))
        self.assertTrue(same(scaled_counts((1, 0, 5), 0), (0, 0, 0)))
        self.assertTrue(same(scaled_counts((7,), 1), (7,)))
        self.assertTrue(same(added_counts((1, 0, 5), (2, 3, 0)), (3, 3, 5)))
        self.assertTrue(same(added_counts((10 ** 9 - 1,), (1,)), (10 ** 9,)))


def plain_fraction(text):
    u, _, e = text.partition("/")
    found = Fraction(int(u), int(e or 1))
    return (found.numerator, found.denominator)


class Fractions(unittest.TestCase):
    def test_written_and_read_again(self):
        chance = random.Random(3)
        for _ in range(300):
            size = 10 ** chance.choice((1, 1, 2, 9, 30, 60)) - 1
            found = Fraction(chance.randint(-size, size), chance.randint(1, size))
            pair = (found.numerator, found.denominator)
            text = fraction_text(pair)
            self.assertEqual(text, str(found))
            self.assertTrue(same(read_fraction(text), pair))

    def test_sixty_digits_and_sixty_one(self):
        long, longer = "1" + "0" * 59, "1" + "0" * 60
        self.assertEqual(read_fraction("-" + long), (-10 ** 59, 1))
        self.assertEqual(read_fraction("9" * 60 + "/" + long), (10 ** 60 - 1, 10 ** 59))
        self.assertEqual([place_told(read_fraction, text) for text in (longer, "-" + longer, "1/" + longer)], [60, 61, 62])

    def test_form(self):
        for text, place in (("", 0), ("-", 1), ("-0", 1), ("00", 1), ("01", 1), ("1/", 2), ("1/0", 2), ("1/02", 2), ("1/-2", 2),
                            ("--1", 1), ("+1", 0), ("1 /2", 1), ("1/2 ", 3), ("1/2/3", 3), ("1.5", 1), ("/2", 0), ("-1/3x", 4),
                            ("2/4x", 3), ("3/1x", 3), ("0/", 2)):
            self.assertEqual(place_told(read_fraction, text), place, text)

    def test_not_in_lowest_terms(self):
        for text in ("2/4", "0/5", "0/1", "3/1", "-3/1", "-6/9", "10/5", "1/1"):
            self.assertTrue(same(place_told(read_fraction, text), 0), text)
        self.assertEqual([read_fraction("1/2"), read_fraction("-9/10"), read_fraction("12")], [(1, 2), (-9, 10), (12, 1)])


if __name__ == "__main__":
    unittest.main()
