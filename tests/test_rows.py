import unittest
from math import lcm

from restlots.errors import BadModulus, BadNumber, Nothing
from restlots.rows import at_distance, counts_by, longest_row
from restlots.sieves import Sieve
from samples import (
    LIMIT, NO_INTEGERS, full, greatest_sieve, knotted_sieve, mixed_sieves, plain_fits, refused, sample_sieves)

EXAMPLE = Sieve(((4, (1, 2)), (6, (1, 4))))
ALL = Sieve(())
NONE = Sieve(((4, (0, 2)), (6, (1, 3, 5))))


def plain_row(sieve, step, begin):
    """How many numbers from begin on fit, one behind the other by the step; more than whole if there is no end."""
    many = 0
    while many <= sieve.whole and plain_fits(sieve.bars, begin + many * step):
        many += 1
    return many


def plain_longest_row(sieve, step):
    most, back = max((plain_row(sieve, step, begin), -begin) for begin in range(sieve.whole))
    return None if most > sieve.whole else (most, -back)


class ExampleTest(unittest.TestCase):

    def test_example(self):
        told = [at_distance(EXAMPLE, 9), longest_row(EXAMPLE, 9), longest_row(EXAMPLE, 12), counts_by(EXAMPLE, 4)]
        self.assertEqual(told, [1, (2, 1), None, [0, 1, 1, 0]])


class AtDistanceTest(unittest.TestCase):

    def test_against_the_words(self):
        for sieve in sample_sieves():
            for step in list(range(1, 9)) + [sieve.whole, sieve.whole + 1, 2 * sieve.whole + 3, 10 ** 29 + 7]:
                found = [number for number in sieve.classes if plain_fits(sieve.bars, number + step)]
                self.assertEqual(at_distance(sieve, step), len(found))

    def test_over_the_end_of_the_whole(self):
        sieve = Sieve(((10, (0, 1, 9)),))
        self.assertEqual([at_distance(sieve, step) for step in range(1, 11)], [2, 1, 0, 0, 0, 0, 0, 1, 2, 3])

    def test_all_and_none(self):
        self.assertEqual([at_distance(ALL, 1), at_distance(ALL, LIMIT)], [1, 1])
        self.assertEqual(at_distance(Sieve((full(4), full(6))), 5), 12)
        self.assertEqual([at_distance(NONE, 1), at_distance(NONE, 12), at_distance(NONE, LIMIT)], [0, 0, 0])


class LongestRowTest(unittest.TestCase):

    def test_against_the_words(self):
        for sieve in sample_sieves() + mixed_sieves():
            if sieve.classes != ():
                for step in list(range(1, 8)) + [sieve.whole, sieve.whole + 1, 10 ** 29 + 7]:
                    self.assertEqual(longest_row(sieve, step), plain_longest_row(sieve, step), (sieve.bars, step))

    def test_rows_without_end(self):
        self.assertIsNone(longest_row(ALL, 1))
        self.assertIsNone(longest_row(ALL, LIMIT))
        self.assertIsNone(longest_row(Sieve((full(4), full(6))), 7))
        self.assertIsNone(longest_row(Sieve(((1000000, (3,)),)), LIMIT))
        # 0 and 2 come for ever, 1 alone does not.
        self.assertIsNone(longest_row(Sieve(((4, (0, 1, 2)),)), 2))
        self.assertEqual(longest_row(Sieve(((4, (0, 1, 2)),)), 1), (3, 0))
        self.assertEqual(longest_row(Sieve(((4, (0, 1, 2)),)), 3), (3, 2))

    def test_of_several_the_least_first_number(self):
        self.assertEqual(longest_row(Sieve(((10, (0, 3, 5, 8)),)), 3), (2, 0))
        self.assertEqual(longest_row(Sieve(((10, (2, 4, 7, 9)),)), 2), (2, 2))
        self.assertEqual(longest_row(Sieve(((10, (1, 3, 9)),)), 5), (1, 1))

    def test_a_row_over_the_end_of_the_whole(self):
        self.assertEqual(longest_row(Sieve(((10, (1, 4, 5, 8)),)), 3), (4, 5))
        self.assertEqual(longest_row(Sieve(((10, (0, 1, 9)),)), 11), (3, 9))

    def test_nothing(self):
        for sieve in (NONE, Sieve(((1, ()),)), Sieve((full(3), (5, ())))):
            for step in (1, 12, LIMIT):
                with self.assertRaises(Nothing):
                    longest_row(sieve, step)


class StepsTest(unittest.TestCase):

    def test_up_to_the_limits(self):
        sieve = Sieve(((7, (1, 2, 3)),))
        # 10 ** 30 leaves 1 by 7.
        self.assertEqual([at_distance(sieve, 1), at_distance(sieve, LIMIT)], [2, 2])
        self.assertEqual([longest_row(sieve, 1), longest_row(sieve, LIMIT)], [(3, 1), (3, 1)])

    def test_wrong_steps(self):
        for sieve in (EXAMPLE, ALL, NONE):
            for step in NO_INTEGERS + [0, -1, -LIMIT, LIMIT + 1]:
                self.assertIs(refused(at_distance, sieve, step), BadNumber)
                self.assertIs(refused(longest_row, sieve, step), BadNumber)


class CountsByTest(unittest.TestCase):

    def test_against_the_words(self):
        for sieve in sample_sieves() + mixed_sieves():
            for modulus in (1, 2, 3, 4, 5, 6, 8):
                often = [0] * modulus
                for number in range(lcm(sieve.whole, modulus)):
                    if plain_fits(sieve.bars, number):
                        often[number % modulus] += 1
                self.assertEqual(counts_by(sieve, modulus), often, (sieve.bars, modulus))

    def test_a_modulus_without_common_measure(self):
        self.assertEqual(counts_by(EXAMPLE, 5), [2, 2, 2, 2, 2])
        self.assertEqual(counts_by(EXAMPLE, 8), [0, 1, 1, 0, 0, 1, 1, 0])

    def test_up_to_the_limits(self):
        self.assertEqual([counts_by(EXAMPLE, 1), counts_by(ALL, 1), counts_by(ALL, 200)], [[2], [1], [1] * 200])
        self.assertEqual(counts_by(Sieve(((200, (7, 150)),)), 200), [int(rest in (7, 150)) for rest in range(200)])

    def test_no_number_fits(self):
        for modulus in (1, 3, 200):
            self.assertEqual(counts_by(NONE, modulus), [0] * modulus)

    def test_wrong_moduli(self):
        for sieve in (EXAMPLE, ALL, NONE):
            for modulus in NO_INTEGERS + [0, -1, -5, 201, LIMIT]:
                self.assertIs(refused(counts_by, sieve, modulus), BadModulus)


class ThirtyFiguresTest(unittest.TestCase):

    def test_at_distance(self):
        for sieve in (greatest_sieve(), knotted_sieve()):
            self.assertEqual(at_distance(sieve, sieve.whole), len(sieve.classes))
            for step in (1, 2, 5, sieve.classes[9] - sieve.classes[2], sieve.whole - 1, sieve.whole // 4, LIMIT):
                found = [number for number in sieve.classes if plain_fits(sieve.bars, number + step)]
                self.assertEqual(at_distance(sieve, step), len(found))

    def test_longest_row(self):
        for sieve in (greatest_sieve(), knotted_sieve()):
            for step in (1, sieve.classes[9] - sieve.classes[2], sieve.whole - 1, sieve.whole // 23884, LIMIT):
                # A row cannot be longer than the classes are many: none of these steps leads round.
                rows = [(plain_row(sieve, step, begin), -begin) for begin in sieve.classes]
                most, back = max(rows)
                self.assertLessEqual(most, len(sieve.classes))
                self.assertEqual(longest_row(sieve, step), (most, -back))
            self.assertIsNone(longest_row(sieve, sieve.whole))
        # Two numbers that leave unlike rests by the first bar alone, whose lot holds both, come for ever.
        sieve = Sieve(tuple(zip((1000000, 999999, 999997, 999991), ((3, 500003), (5,), (1, 9), (6,)))))
        self.assertIsNone(longest_row(sieve, sieve.whole // 2))
        self.assertEqual(longest_row(sieve, sieve.whole // 4), (1, sieve.classes[0]))

    def test_long_rows(self):
        sieve = Sieve(((999983, tuple(range(60))), (999979, tuple(range(33)))))
        self.assertEqual(longest_row(sieve, 1), (33, 0))
        # A step that leaves 1 by the one modulus, and 0 by the other.
        step = 999979 * pow(999979, -1, 999983)
        self.assertEqual(longest_row(sieve, step), (60, 0))
        ends = [number for number in sieve.classes if number % 999983 == 59]
        self.assertEqual(longest_row(sieve, sieve.whole - step), (60, min(ends)))

    def test_counts_by(self):
        sieve = greatest_sieve()
        classes = [sum(number % 4 == rest for number in sieve.classes) for rest in range(4)]
        self.assertEqual(counts_by(sieve, 200), classes * 50)
        self.assertEqual(counts_by(sieve, 199), [2000] * 199)
        sieve = knotted_sieve()
        classes = [sum(number % 200 == rest for number in sieve.classes) for rest in range(200)]
        self.assertEqual(counts_by(sieve, 200), classes)


class RepeatedTest(unittest.TestCase):

    def test_lists_are_new_and_calls_repeat(self):
        for sieve in (EXAMPLE, ALL, NONE):
            before = counts_by(sieve, 4)
            counts_by(sieve, 4).append(None)
            self.assertEqual(counts_by(sieve, 4), before)
        bars = ((4, (1, 2)), (6, (1, 4)))
        for function in (at_distance, longest_row, counts_by):
            self.assertEqual(function(EXAMPLE, 9), function(EXAMPLE, 9))
            self.assertEqual((EXAMPLE.bars, EXAMPLE.whole, EXAMPLE.classes), (bars, 12, (1, 10)))


if __name__ == "__main__":
    unittest.main()
