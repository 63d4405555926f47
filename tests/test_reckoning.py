import unittest
from math import gcd, lcm

from restlots.errors import BadModulus, BadNumber, TooGreat, TooMany
from restlots.lots import rests
from restlots.reckoning import moved, products, shared, split, stretched, sums, taken_from
from restlots.sides import alike, both
from restlots.sieves import Sieve, fits, share
from samples import (
    ABOVE, BELOW, LIMIT, NO_INTEGERS, NO_NUMBERS, full, greatest_sieve, knotted_sieve, mixed_sieves, plain_fits,
    refused, sample_sieves)

EXAMPLE = Sieve(((4, (1, 2)), (6, (1, 4))))
ALL = Sieve(())
NONE = Sieve(((4, (0, 2)), (6, (1, 3, 5))))
BAR = (4, (1, 2))


def pairs():
    """Pairs of sieves: the same, sharing bars and sharing none, in both orders."""
    return [(one, other) for one in mixed_sieves() for other in mixed_sieves()]


def great_sieves():
    """Sieves of thirty figures, and the example beside them."""
    return [greatest_sieve(), knotted_sieve(), EXAMPLE]


def plain_rests(sieve, modulus):
    """All rests by the modulus of numbers that fit, straight from the words."""
    numbers = range(lcm(sieve.whole, modulus))
    return {number % modulus for number in numbers if plain_fits(sieve.bars, number)}


def agreeing_rests(sieve, modulus):
    """The same of a great sieve: what agrees with a class by the common measure of the modulus and the whole."""
    common = gcd(sieve.whole, modulus)
    left = {number % common for number in sieve.classes}
    return {rest for rest in range(modulus) if rest % common in left}


def fitting(sieve, begin, end):
    return [number for number in range(begin, end) if plain_fits(sieve.bars, number)]


def shape(sieve):
    """The moduli of all bars, and how many rests their lots have."""
    return [(modulus, len(lot)) for modulus, lot in sieve.bars]


class ExampleTest(unittest.TestCase):

    def test_example(self):
        self.assertEqual([sums(EXAMPLE, EXAMPLE, 12), products(EXAMPLE, EXAMPLE, 3)], [[2, 8, 11], [1]])
        self.assertEqual([split(EXAMPLE, EXAMPLE, 11), split(EXAMPLE, EXAMPLE, 12)], [1, None])
        self.assertEqual([moved(EXAMPLE, 1).classes, taken_from(EXAMPLE, 0).classes], [(2, 11), (2, 11)])
        self.assertEqual(stretched(EXAMPLE, 2).classes, (2, 20))
        self.assertEqual(shared(EXAMPLE, 2).bars, ((2, (1,)), (3, (2,))))


class SumsTest(unittest.TestCase):

    def test_against_the_words(self):
        for modulus in (1, 2, 3, 4, 7, 10, 12, 24):
            left = {sieve.bars: plain_rests(sieve, modulus) for sieve in mixed_sieves()}
            for one, other in pairs():
                both_left = [(first, second) for first in left[one.bars] for second in left[other.bars]]
                found = sorted({(first + second) % modulus for first, second in both_left})
                self.assertEqual(sums(one, other, modulus), found, (one.bars, other.bars, modulus))
                found = sorted({first * second % modulus for first, second in both_left})
                self.assertEqual(products(one, other, modulus), found, (one.bars, other.bars, modulus))

    def test_of_numbers_themselves(self):
        one, other = Sieve(((4, (1,)), (3, (0, 2)))), Sieve(((6, (2, 3)),))
        numbers = [(first, second) for first in fitting(one, -60, 60) for second in fitting(other, -60, 60)]
        for modulus in range(1, 20):
            found = sorted({(first + second) % modulus for first, second in numbers})
            self.assertEqual(sums(one, other, modulus), found)
            self.assertEqual(sums(other, one, modulus), found)
            found = sorted({first * second % modulus for first, second in numbers})
            self.assertEqual(products(one, other, modulus), found)
            self.assertEqual(products(other, one, modulus), found)

    def test_no_number_fits(self):
        for sieve in mixed_sieves():
            for none in (NONE, Sieve(((1, ()),))):
                for function in (sums, products):
                    self.assertEqual([function(none, sieve, 6), function(sieve, none, 6)], [[], []])

    def test_all_numbers_fit(self):
        self.assertEqual([sums(ALL, ALL, 5), products(ALL, ALL, 5)], [[0, 1, 2, 3, 4]] * 2)
        self.assertEqual(sums(ALL, EXAMPLE, 5), [0, 1, 2, 3, 4])
        self.assertEqual(products(ALL, Sieve(((4, (0, 2)),)), 4), [0, 2])
        self.assertEqual(products(ALL, Sieve(((10, (0,)),)), 10), [0])

    def test_moduli(self):
        for function in (sums, products):
            self.assertEqual(function(EXAMPLE, EXAMPLE, 1), [0])
            self.assertEqual(function(ALL, EXAMPLE, 200), list(range(200)))
            for modulus in NO_INTEGERS + [0, -1, 201, 1000, LIMIT]:
                self.assertIs(refused(function, EXAMPLE, EXAMPLE, modulus), BadModulus)
                self.assertIs(refused(function, NONE, NONE, modulus), BadModulus)
        self.assertEqual(sums(EXAMPLE, EXAMPLE, 200), [rest for rest in range(200) if rest % 4 != 1])
        self.assertEqual(sums(Sieve(((200, (150,)),)), Sieve(((200, (60, 149)),)), 200), [10, 99])
        self.assertEqual(products(Sieve(((200, (150,)),)), Sieve(((200, (61, 199)),)), 200), [50, 150])

    def test_all_rests_of_sums_are_sums_of_rests(self):
        for one in mixed_sieves() + great_sieves():
            for other in great_sieves():
                for modulus in (1, 9, 60, 199, 200):
                    told = [(first, second) for first in rests(one, modulus) for second in rests(other, modulus)]
                    found = sorted({(first + second) % modulus for first, second in told})
                    self.assertEqual(sums(one, other, modulus), found)

    def test_of_thirty_figures(self):
        # 23884 = 4 * 7 * 853, so the greatest sieve leaves few rests by 28.
        for modulus in (7, 28, 160, 196, 200):
            for one in great_sieves():
                for other in great_sieves():
                    left, other_left = agreeing_rests(one, modulus), agreeing_rests(other, modulus)
                    found = sorted({(first + second) % modulus for first in left for second in other_left})
                    self.assertEqual(sums(one, other, modulus), found)
                    found = sorted({first * second % modulus for first in left for second in other_left})
                    self.assertEqual(products(one, other, modulus), found)
        self.assertLess(len(sums(greatest_sieve(), greatest_sieve(), 28)), 28)

    def test_more_than_six_bars_together(self):
        one = Sieve((BAR,) * 6)
        self.assertEqual([sums(one, one, 4), products(one, one, 4)], [[0, 2, 3], [0, 1, 2]])


class SplitTest(unittest.TestCase):

    def test_against_the_words(self):
        for one, other in pairs():
            whole = lcm(one.whole, other.whole)
            for number in (-37, -1, 0, 5, 12, 1000):
                found = [x for x in range(whole) if plain_fits(one.bars, x) and plain_fits(other.bars, number - x)]
                self.assertEqual(split(one, other, number), min(found, default=None), (one.bars, other.bars, number))

    def test_the_rest_may_be_below_0(self):
        self.assertEqual(split(Sieve(((10, (7,)),)), ALL, 3), 7)
        self.assertEqual(split(Sieve(((10, (7,)),)), Sieve(((10, (6,)),)), 3), 7)
        self.assertEqual(split(ALL, Sieve(((10, (6,)),)), 3), 7)

    def test_no_bars(self):
        self.assertEqual([split(ALL, ALL, 0), split(ALL, ALL, -LIMIT), split(ALL, NONE, 0)], [0, 0, None])

    def test_numbers(self):
        for number in (-LIMIT, LIMIT):
            found = split(EXAMPLE, Sieve(((5, (1,)),)), number)
            self.assertTrue(plain_fits(EXAMPLE.bars, found) and (number - found) % 5 == 1)
            self.assertEqual([x for x in range(found) if plain_fits(EXAMPLE.bars, x) and (number - x) % 5 == 1], [])
        for number in NO_NUMBERS:
            self.assertIs(refused(split, EXAMPLE, EXAMPLE, number), BadNumber)
            self.assertIs(refused(split, NONE, NONE, number), BadNumber)

    def test_six_and_seven_bars(self):
        for many in range(7):
            self.assertEqual(split(Sieve((BAR,) * many), Sieve((BAR,) * (6 - many)), 3), 1)
        for many in range(1, 7):
            self.assertIs(refused(split, Sieve((BAR,) * many), Sieve((BAR,) * (7 - many)), 3), TooMany)
        self.assertIs(refused(split, Sieve((BAR,) * 6), Sieve((BAR,) * 6), 3), TooMany)

    def test_of_the_whole_and_the_choices(self):
        one = Sieve(tuple((modulus, (1,)) for modulus in ABOVE[:3]))
        other = Sieve(tuple((modulus, (1,)) for modulus in ABOVE[3:]))
        self.assertIs(refused(split, one, other, 0), TooGreat)
        other = Sieve(tuple((modulus, (1,)) for modulus in BELOW[3:]))
        self.assertEqual(split(one, other, 2), 1)
        forty = Sieve(((1009, tuple(range(40))),))
        self.assertEqual(split(forty, Sieve(((2003, tuple(range(50))),)), 3), 0)
        self.assertIs(refused(split, forty, Sieve(((2003, tuple(range(51))),)), 3), TooMany)
        self.assertIsNone(split(forty, Sieve(((2003, tuple(range(50))), (3, ()))), 3))
        self.assertIs(refused(split, forty, Sieve(((2003, tuple(range(51))), (3, ()))), 3), TooMany)

    def test_which_error_comes_first(self):
        great = [(modulus, tuple(range(10))) for modulus in ABOVE]
        one, other = Sieve(tuple(great[:3])), Sieve(tuple(great[3:]))
        self.assertIs(refused(split, one, other, LIMIT + 1), BadNumber)
        self.assertIs(refused(split, Sieve((BAR,) * 6), Sieve((BAR,) * 6), True), BadNumber)
        self.assertIs(refused(split, one, other, 0), TooGreat)
        self.assertIs(refused(split, one, Sieve(((1, (0,)),) + other.bars), 0), TooMany)
        self.assertIs(refused(split, greatest_sieve(), Sieve(((999983, (1,)),)), 0), TooMany)

    def test_of_thirty_figures(self):
        bars = greatest_sieve().bars
        one, other = Sieve(bars[:3]), Sieve(bars[3:])
        for number in (-LIMIT, -1, 0, 5, LIMIT):
            found = split(one, other, number)
            self.assertTrue(0 <= found < one.whole * other.whole)
            self.assertTrue(plain_fits(one.bars, found) and plain_fits(other.bars, number - found))
            together = both(one, taken_from(other, number))
            self.assertEqual(len(together.classes), len(one.classes) * len(other.classes))
            self.assertEqual(found, together.classes[0])


class MovedTest(unittest.TestCase):

    def test_against_the_words(self):
        for sieve in sample_sieves() + mixed_sieves():
            for by in (-1000, -7, -1, 0, 1, 2, 5, 12, 61):
                told = moved(sieve, by)
                found = sorted((number + by) % sieve.whole for number in sieve.classes)
                self.assertEqual([told.whole, told.classes], [sieve.whole, tuple(found)])
                self.assertEqual(shape(told), shape(sieve))
                told = taken_from(sieve, by)
                found = sorted((by - number) % sieve.whole for number in sieve.classes)
                self.assertEqual([told.whole, told.classes], [sieve.whole, tuple(found)])
                self.assertEqual(shape(told), shape(sieve))

    def test_of_numbers_themselves(self):
        for sieve in mixed_sieves():
            for by in (-13, 4):
                self.assertEqual(fitting(moved(sieve, by), -50, 50),
                                 [one + by for one in fitting(sieve, -50 - by, 50 - by)])
                self.assertEqual(fitting(taken_from(sieve, by), -50, 50),
                                 [by - one for one in reversed(fitting(sieve, by - 49, by + 51))])

    def test_places_and_lots(self):
        sieve = Sieve(((4, (0, 3)), (6, ()), full(3), (4, (0, 3))))
        self.assertEqual(moved(sieve, 1).bars, ((4, (0, 1)), (6, ()), full(3), (4, (0, 1))))
        self.assertEqual(taken_from(sieve, 1).bars, ((4, (1, 2)), (6, ()), full(3), (4, (1, 2))))
        self.assertEqual([moved(ALL, 5), taken_from(ALL, 5)], [ALL, ALL])

    def test_numbers(self):
        for function in (moved, taken_from):
            for number in NO_NUMBERS:
                for sieve in (EXAMPLE, ALL, NONE):
                    self.assertIs(refused(function, sieve, number), BadNumber)
        self.assertEqual(moved(EXAMPLE, LIMIT), moved(EXAMPLE, LIMIT % 12))
        self.assertEqual(moved(EXAMPLE, -LIMIT), moved(EXAMPLE, -LIMIT % 12))
        self.assertEqual(taken_from(EXAMPLE, LIMIT), taken_from(EXAMPLE, LIMIT % 12))
        self.assertEqual(taken_from(EXAMPLE, -LIMIT), taken_from(EXAMPLE, -LIMIT % 12))

    def test_moved_by_whole_and_taken_from_twice(self):
        for sieve in sample_sieves() + mixed_sieves() + great_sieves():
            self.assertEqual([moved(sieve, sieve.whole), moved(sieve, -sieve.whole)], [sieve, sieve])
            for number in (0, 1, -5, LIMIT, -LIMIT):
                self.assertEqual(taken_from(taken_from(sieve, number), number), sieve)
                self.assertEqual(moved(moved(sieve, number), -number), sieve)

    def test_of_thirty_figures(self):
        for sieve in (greatest_sieve(), knotted_sieve()):
            for by in (-LIMIT, -1, 12345678901234567890, LIMIT):
                found = tuple(sorted((number + by) % sieve.whole for number in sieve.classes))
                self.assertEqual([moved(sieve, by).classes, moved(sieve, by).whole], [found, sieve.whole])
                found = tuple(sorted((by - number) % sieve.whole for number in sieve.classes))
                self.assertEqual([taken_from(sieve, by).classes, shape(taken_from(sieve, by))], [found, shape(sieve)])


class StretchedTest(unittest.TestCase):

    def test_against_the_words(self):
        for sieve in sample_sieves() + mixed_sieves():
            for by in (1, 2, 3, 4, 10, 1000):
                told = stretched(sieve, by)
                self.assertEqual(told.whole, by * sieve.whole)
                self.assertEqual(told.classes, tuple(by * number for number in sieve.classes))
                if sieve.bars != ():
                    found = tuple((by * modulus, tuple(by * rest for rest in lot)) for modulus, lot in sieve.bars)
                    self.assertEqual(told.bars, found)

    def test_no_bars(self):
        self.assertEqual([stretched(ALL, by).bars for by in (1, 7, 1000)],
                         [((1, (0,)),), ((7, (0,)),), ((1000, (0,)),)])
        self.assertEqual(stretched(Sieve(((5, ()),)), 7).bars, ((35, ()),))

    def test_numbers(self):
        for function in (stretched, shared):
            for by in NO_NUMBERS + [0, -1, 1001, LIMIT]:
                for sieve in (EXAMPLE, ALL, NONE, greatest_sieve()):
                    self.assertIs(refused(function, sieve, by), BadNumber)
            self.assertEqual(function(EXAMPLE, 1), EXAMPLE)
        self.assertEqual(stretched(EXAMPLE, 1000).bars, ((4000, (1000, 2000)), (6000, (1000, 4000))))

    def test_moduli_of_a_million_and_above(self):
        self.assertEqual(stretched(Sieve(((1000, (999,)),)), 1000).bars, ((1000000, (999000,)),))
        self.assertEqual(stretched(Sieve(((500000, (3,)), (2, (1,)))), 2).bars, ((1000000, (6,)), (4, (2,))))
        self.assertIs(refused(stretched, Sieve(((1001, (999,)),)), 1000), TooGreat)
        self.assertIs(refused(stretched, Sieve(((2, (1,)), (500001, ()))), 2), TooGreat)
        self.assertIs(refused(stretched, Sieve(((500001, ()), (2, (1,)))), 2), TooGreat)
        self.assertEqual(stretched(Sieve(((1000000, (7,)),)), 1).bars, ((1000000, (7,)),))

    def test_the_whole(self):
        four = Sieve(tuple((modulus, (1, 2)) for modulus in BELOW[:4]))
        self.assertEqual(stretched(four, 10).whole, 10 * four.whole)
        self.assertEqual(stretched(four, 10).classes, tuple(10 * number for number in four.classes))
        # All moduli stay below 1000000, but not the whole below 10 ** 30.
        sieve = greatest_sieve()
        self.assertIs(refused(stretched, sieve, 2), TooGreat)
        self.assertEqual(stretched(sieve, 1), sieve)


class SharedTest(unittest.TestCase):

    def test_against_the_words(self):
        for sieve in sample_sieves() + mixed_sieves():
            for by in (1, 2, 3, 4, 5, 6, 12, 100, 999, 1000):
                told = shared(sieve, by)
                found = [modulus // gcd(modulus, by) for modulus, _ in sieve.bars]
                self.assertEqual([modulus for modulus, _ in told.bars], found)
                numbers = [number for number in range(-12, 30) if plain_fits(sieve.bars, by * number)]
                self.assertEqual([number for number in range(-12, 30) if fits(told, number)], numbers)

    def test_each_lot_on_its_own(self):
        for modulus in range(1, 25):
            sieve = Sieve(((modulus, tuple(range(0, modulus, 2))), (modulus, tuple(range(0, modulus, 3)))))
            for by in range(1, 30):
                smaller = modulus // gcd(modulus, by)
                found = [tuple(rest for rest in range(smaller) if by * rest % modulus in lot) for _, lot in sieve.bars]
                self.assertEqual(shared(sieve, by).bars, ((smaller, found[0]), (smaller, found[1])))

    def test_no_bars_and_no_rests(self):
        self.assertEqual([shared(ALL, 7), shared(ALL, 1000)], [ALL, ALL])
        self.assertEqual(shared(Sieve(((6, ()), (6, (1, 3)))), 2).bars, ((3, ()), (3, ())))
        self.assertEqual(shared(Sieve(((6, (0, 3)), (5, (1,)))), 6).bars, ((1, (0,)), (5, (1,))))

    def test_shared_undoes_stretched(self):
        for sieve in mixed_sieves():
            for by in (1, 2, 9, 1000):
                self.assertIs(alike(shared(stretched(sieve, by), by), sieve), True)
        for sieve in mixed_sieves()[1:]:
            self.assertEqual(shared(stretched(sieve, 6), 6), sieve)

    def test_of_thirty_figures(self):
        for sieve in (greatest_sieve(), knotted_sieve()):
            for by in (2, 7, 853, 1000):
                told = shared(sieve, by)
                common = gcd(sieve.whole, by)
                self.assertEqual(told.whole, lcm(*[modulus // gcd(modulus, by) for modulus, _ in sieve.bars]))
                self.assertEqual([modulus for modulus, _ in told.bars],
                                 [modulus // gcd(modulus, by) for modulus, _ in sieve.bars])
                for number in told.classes:
                    self.assertTrue(plain_fits(sieve.bars, by * number))
                # Each class that the common measure measures is by times one of these numbers, by the whole.
                found = {by * number % sieve.whole for number in told.classes}
                self.assertEqual(found, {number for number in sieve.classes if number % common == 0})
        self.assertEqual(len(shared(greatest_sieve(), 999).classes), 2000)


class RepeatedTest(unittest.TestCase):

    def test_the_sieves_stay_as_they_were(self):
        other = Sieve(((5, (0, 2)),))
        calls = [(sums, EXAMPLE, other, 10), (products, EXAMPLE, other, 10), (split, EXAMPLE, other, 3),
                 (moved, EXAMPLE, 3), (taken_from, EXAMPLE, 3), (stretched, EXAMPLE, 3), (shared, EXAMPLE, 3)]
        for function, *arguments in calls:
            first = function(*arguments)
            self.assertEqual(function(*arguments), first)
            if isinstance(first, list):
                first.append(77)
                self.assertNotEqual(function(*arguments), first)
            self.assertEqual([EXAMPLE.bars, EXAMPLE.classes], [((4, (1, 2)), (6, (1, 4))), (1, 10)])
            self.assertEqual([other.bars, share(other)], [((5, (0, 2)),), (2, 5)])


if __name__ == "__main__":
    unittest.main()
