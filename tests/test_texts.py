import re
import unittest
from itertools import product

from restlots.errors import BadLine, TooGreat, TooMany
from restlots.sieves import Sieve
from restlots.texts import read, write
from samples import ABOVE, BELOW, full, greatest_sieve, knotted_sieve, mixed_sieves, sample_sieves

EXAMPLE = Sieve(((4, (1, 2)), (6, (1, 4))))
LINE = "bar 4 1 2"


def line_with(many):
    """A line with rests from 0 on."""
    return " ".join(["bar 100"] + [str(rest) for rest in range(many)])


def can_stand(words):
    """Tell whether words can be the first ones of a line, straight from the words of the document."""
    if words[0] != "bar" or len(words) > 62:
        return False
    if not all(re.fullmatch("0|[1-9][0-9]*", word) and len(word) < 8 for word in words[1:]):
        return False
    numbers = [int(word) for word in words[1:]]
    if numbers == []:
        return True
    modulus, lot = numbers[0], numbers[1:]
    return 1 <= modulus <= 1000000 and lot == sorted(set(lot)) and all(rest < modulus for rest in lot)


def plain_wrong(line):
    """The first word of a line that cannot stand, None if there is none."""
    words = [word for word in line.split(" ") if word]
    for many in range(1, len(words) + 1):
        if not can_stand(words[:many]):
            return many
    return None if len(words) >= 2 else len(words) + 1


class TextsTest(unittest.TestCase):

    def assert_bad(self, text, line, word):
        with self.assertRaises(BadLine) as caught:
            read(text)
        self.assertEqual((caught.exception.line, caught.exception.word), (line, word), text)

    def assert_bad_line(self, text, word):
        """Check a line as the first one, behind other ones, and ahead of others that cannot stand either."""
        self.assert_bad(text, 1, word)
        self.assert_bad("\n".join([LINE, "bar 5", text]), 3, word)
        self.assert_bad("\n".join([LINE] * 5 + [text]), 6, word)
        self.assert_bad("\n".join([LINE, text, "", "bar"]), 2, word)
        self.assert_bad("\n".join([text] * 7), 1, word)

    def test_example(self):
        self.assertEqual(write(EXAMPLE).split("\n"), ["bar 4 1 2", "bar 6 1 4"])
        self.assertTrue(read(write(EXAMPLE)) == EXAMPLE)
        self.assertEqual(read("bar 5").classes, ())
        self.assert_bad("bar 4 1 1", 1, 4)

    def test_written(self):
        self.assertEqual(write(Sieve(())), "")
        self.assertEqual(write(Sieve(((5, ()),))), "bar 5")
        self.assertEqual(write(Sieve(((1, (0,)), (1000000, (0, 10, 999999)), (3, ()), full(3)))),
                         "bar 1 0\nbar 1000000 0 10 999999\nbar 3\nbar 3 0 1 2")

    def test_read_as_written(self):
        for sieve in sample_sieves() + mixed_sieves() + [greatest_sieve(), knotted_sieve(), Sieve((full(60),))]:
            text = write(sieve)
            self.assertIsInstance(text, str)
            self.assertEqual(len(text.split("\n")), max(1, len(sieve.bars)))
            self.assertEqual([read(text), read(text).bars], [sieve, sieve.bars])
            self.assertEqual(write(read(text)), text)

    def test_further_spaces(self):
        text = "  bar   4 1     2 \nbar 6    \n    bar 5 0"
        self.assertEqual(read(text).bars, ((4, (1, 2)), (6, ()), (5, (0,))))
        self.assertEqual(write(read(text)), "bar 4 1 2\nbar 6\nbar 5 0")
        for sieve in sample_sieves()[1:]:
            text = write(sieve)
            self.assertEqual(read(text.replace(" ", "   ")), sieve)
            self.assertEqual(read(" " + text.replace("\n", "  \n ") + "    "), sieve)

    def test_spaces_do_not_count_as_words(self):
        self.assert_bad_line("   bar    4   1  1  ", 4)
        self.assert_bad_line("   bar     ", 2)
        self.assert_bad_line("     barr  4", 1)
        self.assert_bad_line("  bar   04  ", 2)

    def test_the_empty_text(self):
        self.assertEqual(read(""), Sieve(()))

    def test_lines_without_words(self):
        for line in ("", " ", "     "):
            self.assert_bad(line + "\n", 1, 1)
            self.assert_bad("\n" + line, 1, 1)
            self.assert_bad(LINE + "\n" + line, 2, 1)
            self.assert_bad(line + "\n" + LINE, 1, 1)
            self.assert_bad(LINE + "\n" + line + "\n" + LINE, 2, 1)
        for text in (" ", "   "):
            self.assert_bad(text, 1, 1)

    def test_six_and_seven_lines(self):
        self.assertEqual(read("\n".join([LINE] * 6)).bars, ((4, (1, 2)),) * 6)
        for line in (LINE, "", " ", "bar", "bar 0", "x", "bar 4 1 1"):
            self.assert_bad("\n".join([LINE] * 6 + [line]), 7, 1)
            self.assert_bad("\n".join([LINE] * 6 + [line] * 3), 7, 1)
        self.assert_bad("\n".join([LINE] * 5 + ["bar 4 4"] + [LINE] * 3), 6, 3)

    def test_lines_that_end_too_early(self):
        self.assert_bad_line("bar", 2)
        self.assert_bad_line("bar ", 2)
        self.assertEqual(read("bar 7").bars, ((7, ()),))

    def test_first_words(self):
        for word in ("Bar", "BAR", "ba", "bars", "bar4", "4", "-", "bar\t4", "\tbar", "'bar'", "bar,", "\u200bbar"):
            self.assert_bad_line(word + " 4 1", 1)
            self.assert_bad_line(word, 1)
        self.assert_bad_line("4 1 2", 1)

    def test_moduli(self):
        self.assertEqual([read("bar 1").bars, read("bar 1 0").bars], [((1, ()),), ((1, (0,)),)])
        self.assertEqual(read("bar 1000000 999999").bars, ((1000000, (999999,)),))
        for word in ("0", "1000001", "9999999", "10000000", "-1", "-4", "9" * 5000, "1" + "0" * 40):
            self.assert_bad_line("bar " + word, 2)
            self.assert_bad_line("bar " + word + " 0", 2)

    def test_rests(self):
        self.assertEqual(read("bar 4 0 3").bars, ((4, (0, 3)),))
        self.assert_bad_line("bar 4 4", 3)
        self.assert_bad_line("bar 4 -1", 3)
        self.assert_bad_line("bar 4 0 1 2 3 4", 7)
        self.assert_bad_line("bar 1 1", 3)
        self.assert_bad_line("bar 1000000 1000000", 3)
        self.assert_bad_line("bar 4 2 1", 4)
        self.assert_bad_line("bar 4 0 0 5", 4)
        self.assert_bad_line("bar 9 1 3 3 4", 5)
        self.assert_bad_line("bar 9 1 " + "9" * 5000, 4)
        self.assert_bad_line("bar 9 8 bar", 4)

    def test_the_sixtieth_and_the_sixty_first_rest(self):
        self.assertEqual(read(line_with(60)).bars, ((100, tuple(range(60))),))
        self.assert_bad_line(line_with(61), 63)
        self.assert_bad_line(line_with(70), 63)
        self.assert_bad_line(line_with(60) + " x", 63)
        self.assert_bad_line(line_with(59) + " x 99", 62)
        self.assert_bad_line(line_with(60) + " 59 99", 63)

    def test_numbers_that_python_would_not_write_so(self):
        for word in ("+3", "-0", "03", "00", "3.", "3.0", "0x3", "1e1", "1_0", "3,", "x", "None", "True", "\u0663",
                     "\u00b3", "\uff13", "3\t", "\u00a03", "3\r", "3\u2003", "0b1", "(3)", "3-"):
            self.assert_bad_line("bar " + word, 2)
            self.assert_bad_line("bar " + word + " 1", 2)
            self.assert_bad_line("bar 40 " + word, 3)
            self.assert_bad_line("bar 40 1 " + word + " 4", 4)

    def test_only_newlines_part_lines(self):
        for character in ("\r", "\x0b", "\x0c", "\u2028", "\x85"):
            self.assert_bad(character.join(["bar 4 1", "bar 5 1"]), 1, 3)
            self.assert_bad("bar 4" + character + "\nbar 5", 1, 2)

    def test_all_short_lines(self):
        words = ["bar", "0", "1", "2", "4", "04", "x"]
        for many in range(1, 5):
            for row in product(words, repeat=many):
                line = " ".join(row)
                if plain_wrong(line) is None:
                    numbers = [int(word) for word in row[1:]]
                    self.assertEqual(read(line).bars, ((numbers[0], tuple(numbers[1:])),))
                else:
                    self.assert_bad(line, 1, plain_wrong(line))
                    self.assert_bad(LINE + "\n" + line + "\n" + LINE, 2, plain_wrong(line))

    def test_which_line_comes_first(self):
        lines = ["bar 4 1", "bar 5 5", "", "bar", "bar 03", "x"]
        for begin in range(1, 6):
            self.assert_bad("\n".join(lines[:1] + lines[begin:]), 2, plain_wrong(lines[begin]))
        self.assert_bad("\n".join(lines), 2, 3)

    def test_too_great_and_too_many_behind_all_others(self):
        great = ["bar " + str(modulus) + " 1" for modulus in ABOVE]
        with self.assertRaises(TooGreat):
            read("\n".join(great))
        self.assert_bad("\n".join(great + [""]), 7, 1)
        self.assert_bad("\n".join(great[:5] + [great[5] + " 1"]), 6, 4)
        many = ["bar 1009 " + " ".join(str(rest) for rest in range(rests)) for rests in (40, 51)]
        with self.assertRaises(TooMany):
            read("\n".join(many))
        self.assert_bad("\n".join(many + ["bar 0"]), 3, 2)
        with self.assertRaises(TooGreat):
            read("\n".join(line + " 2 3 4 5 6" for line in great))
        below = ["bar " + str(modulus) + " 1" for modulus in BELOW]
        self.assertEqual(read("\n".join(below)).whole, 999999999944948816182013312164)


class RepeatedTest(unittest.TestCase):

    def test_alike(self):
        text = write(EXAMPLE)
        self.assertEqual([write(EXAMPLE), read(text), read(text)], [text, EXAMPLE, EXAMPLE])
        self.assertEqual([EXAMPLE.bars, EXAMPLE.classes], [((4, (1, 2)), (6, (1, 4))), (1, 10)])


if __name__ == "__main__":
    unittest.main()
