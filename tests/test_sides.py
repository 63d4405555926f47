import unittest
from itertools import combinations
from math import lcm, prod

from restlots.errors import Nothing, TooGreat, TooMany
from restlots.sides import alike, as_one, both, distance, first_unlike, within
from restlots.sieves import Sieve
from samples import (
    ABOVE, BELOW, LIMIT, full, greatest_sieve, knotted_sieve, mixed_sieves, plain_fits, refused, sample_sieves)

EXAMPLE = Sieve(((4, (1, 2)), (6, (1, 4))))
THIRDS = Sieve(((3, (1,)),))
ALL = Sieve(())
NONE = Sieve(((4, (0, 2)), (6, (1, 3, 5))))
BAR = (4, (1, 2))


def pairs():
    """Pairs of sieves: the same, sharing bars and sharing none, in both orders."""
    return [(one, other) for one in mixed_sieves() for other in mixed_sieves()]


def sorts(one, other):
    """For each number of a whole of both, whether it fits one, and whether it fits other."""
    numbers = range(lcm(one.whole, other.whole))
    return [(plain_fits(one.bars, number), plain_fits(other.bars, number)) for number in numbers]


def plain_distance(one, other):
    numbers = [number for number in range(lcm(one.whole, other.whole)) if plain_fits(one.bars, number)]
    apart = 0
    while not any(plain_fits(other.bars, number + by) for number in numbers for by in (apart, -apart)):
        apart += 1
    return apart


class ExampleTest(unittest.TestCase):

    def test_example(self):
        self.assertEqual(both(EXAMPLE, Sieve(((5, (0,)),))).classes, (10, 25))
        self.assertEqual([within(EXAMPLE, THIRDS), alike(EXAMPLE, THIRDS)], [True, False])
        self.assertEqual(first_unlike(EXAMPLE, THIRDS), 4)
        self.assertEqual([distance(EXAMPLE, Sieve(((12, (5,)),))), as_one(EXAMPLE).bars], [4, ((12, (1, 10)),)])


class BothTest(unittest.TestCase):

    def test_against_the_words(self):
        for one, other in pairs():
            together = both(one, other)
            self.assertEqual(together, Sieve(one.bars + other.bars))
            found = [number for number, sort in enumerate(sorts(one, other)) if sort == (True, True)]
            self.assertEqual(together.classes, tuple(found))

    def test_what_fits_both_fits_one_and_other(self):
        for one, other in pairs():
            self.assertIs(within(both(one, other), one), True)
            self.assertIs(within(both(one, other), other), True)

    def test_six_and_seven_bars(self):
        for many in range(7):
            together = both(Sieve((BAR,) * many), Sieve((BAR,) * (6 - many)))
            self.assertEqual(together.bars, (BAR,) * 6)
        for many in range(1, 7):
            self.assertIs(refused(both, Sieve((BAR,) * many), Sieve((BAR,) * (7 - many))), TooMany)
        self.assertIs(refused(both, Sieve((BAR,) * 6), Sieve((BAR,) * 6)), TooMany)

    def test_of_the_whole_and_the_choices(self):
        one = Sieve(tuple((modulus, (1,)) for modulus in ABOVE[:3]))
        other = Sieve(tuple((modulus, (1,)) for modulus in ABOVE[3:]))
        self.assertIs(refused(both, one, other), TooGreat)
        other = Sieve(tuple((modulus, (1,)) for modulus in BELOW[3:]))
        self.assertEqual(both(one, other).whole, 999999999944948816182013312164)
        forty = Sieve(((1009, tuple(range(40))),))
        self.assertEqual(len(both(forty, Sieve(((2003, tuple(range(50))),))).classes), 2000)
        self.assertIs(refused(both, forty, Sieve(((2003, tuple(range(51))),))), TooMany)
        self.assertEqual(both(forty, Sieve(((2003, tuple(range(50))), (3, ())))).classes, ())
        self.assertIs(refused(both, forty, Sieve(((2003, tuple(range(51))), (3, ())))), TooMany)

    def test_which_error_comes_first(self):
        great = [(modulus, tuple(range(10))) for modulus in ABOVE]
        one, other = Sieve(tuple(great[:3])), Sieve(tuple(great[3:]))
        self.assertIs(refused(both, one, other), TooGreat)
        self.assertIs(refused(both, Sieve(one.bars), Sieve(((1, (0,)),) + other.bars)), TooMany)
        self.assertIs(refused(both, greatest_sieve(), Sieve(((999983, (1,)),))), TooMany)


class WithinTest(unittest.TestCase):

    def test_against_the_words(self):
        for one, other in pairs():
            found = sorts(one, other)
            self.assertIs(within(one, other), (True, False) not in found, (one.bars, other.bars))
            self.assertIs(alike(one, other), (True, False) not in found and (False, True) not in found)

    def test_of_many_small_sieves(self):
        for sieve in sample_sieves():
            for other in (EXAMPLE, THIRDS, Sieve(((4, (1, 3)), (6, (1, 3, 5)))), Sieve(((8, (0, 1, 4, 5)),))):
                self.assertIs(within(sieve, other), (True, False) not in sorts(sieve, other))
                self.assertIs(within(other, sieve), (False, True) not in sorts(sieve, other))

    def test_all_and_none(self):
        for sieve in mixed_sieves():
            self.assertIs(within(sieve, ALL), True)
            self.assertIs(within(NONE, sieve), True)
            self.assertIs(within(sieve, NONE), sieve.classes == ())
            self.assertIs(within(ALL, sieve), len(sieve.classes) == sieve.whole)
        self.assertIs(alike(NONE, Sieve(((1, ()),))), True)
        self.assertIs(alike(ALL, Sieve((full(4), full(6)))), True)

    def test_the_same_bars_in_another_order_and_twice(self):
        for sieve in sample_sieves():
            self.assertIs(alike(sieve, Sieve(sieve.bars[::-1])), True)
            if len(sieve.bars) <= 2:
                self.assertIs(alike(sieve, Sieve(sieve.bars + sieve.bars)), True)

    def test_a_sieve_is_within_each_one_that_has_some_of_its_bars(self):
        for sieve in sample_sieves() + mixed_sieves() + [greatest_sieve(), knotted_sieve()]:
            for many in range(len(sieve.bars) + 1):
                for bars in combinations(sieve.bars, many):
                    self.assertIs(within(sieve, Sieve(bars)), True)

    def test_more_than_six_bars_together(self):
        one = Sieve(((2, (1,)), (3, (1,)), (5, (1,)), (7, (1,)), (11, (1,)), (13, (1,))))
        other = Sieve(((6, (1, 3)), (10, (1, 5)), (14, (1,)), (22, (1,)), (26, (1,)), (15, (1, 2))))
        self.assertEqual([within(one, other), within(other, one), alike(one, other)], [True, True, True])
        self.assertIsNone(first_unlike(one, other))
        self.assertEqual(distance(one, other), 0)


class FirstUnlikeTest(unittest.TestCase):

    def test_against_the_words(self):
        for one, other in pairs():
            found = [number for number, (first, second) in enumerate(sorts(one, other)) if first != second]
            self.assertEqual(first_unlike(one, other), min(found, default=None), (one.bars, other.bars))

    def test_of_many_small_sieves(self):
        for sieve in sample_sieves():
            for other in (EXAMPLE, Sieve(((2, (1,)), (3, (1, 2)))), Sieve(((8, (0, 1, 4, 5)),))):
                found = [number for number, (first, second) in enumerate(sorts(sieve, other)) if first != second]
                self.assertEqual(first_unlike(sieve, other), min(found, default=None))

    def test_behind_many_that_fit_both(self):
        sixty = (61, tuple(range(60)))
        self.assertEqual([first_unlike(ALL, Sieve((sixty,))), first_unlike(Sieve((sixty,)), ALL)], [60, 60])
        lot = tuple(sorted(7 * many % 61 for many in range(60)))
        self.assertEqual(first_unlike(Sieve(((7, (0,)),)), Sieve(((7, (0,)), (61, lot)))), 420)
        lot = tuple(sorted(7 * many % 1009 for many in range(60)))
        self.assertEqual(first_unlike(Sieve(((7, (0,)), (1009, lot))), Sieve(((7, (0,)),))), 420)

    def test_either_side_may_have_it(self):
        one, other = Sieve(((10, (1, 4)),)), Sieve(((10, (1, 3)),))
        self.assertEqual([first_unlike(one, other), first_unlike(other, one)], [3, 3])
        self.assertEqual([first_unlike(ALL, NONE), first_unlike(NONE, ALL), first_unlike(NONE, THIRDS)], [0, 0, 1])


class DistanceTest(unittest.TestCase):

    def test_against_the_words(self):
        for one, other in pairs():
            if one.classes != () and other.classes != ():
                self.assertEqual(distance(one, other), plain_distance(one, other), (one.bars, other.bars))

    def test_of_one_bar_each(self):
        for modulus in (1, 6, 9, 10):
            for rest in range(10):
                for other_rest in range(modulus):
                    one, other = Sieve(((10, (rest,)),)), Sieve(((modulus, (other_rest,)),))
                    self.assertEqual(distance(one, other), plain_distance(one, other))
                    self.assertEqual(distance(other, one), plain_distance(one, other))

    def test_around_the_whole(self):
        self.assertEqual(distance(Sieve(((100, (1, 40)),)), Sieve(((100, (60, 98)),))), 3)
        self.assertEqual(distance(Sieve(((100, (60, 98)),)), Sieve(((100, (1, 40)),))), 3)
        self.assertEqual(distance(Sieve(((100, (0,)),)), Sieve(((100, (50,)),))), 50)
        self.assertEqual(distance(Sieve(((100, (0, 1, 2)),)), Sieve(((100, (49,)),))), 47)

    def test_some_number_fits_both(self):
        self.assertEqual([distance(EXAMPLE, EXAMPLE), distance(ALL, EXAMPLE), distance(ALL, ALL)], [0, 0, 0])
        self.assertEqual(distance(Sieve(((999983, (5,)),)), Sieve(((1000000, (77,)),))), 0)

    def test_nothing(self):
        for sieve in mixed_sieves():
            for none in (NONE, Sieve(((1, ()),)), Sieve((full(3), (5, ())))):
                self.assertIs(refused(distance, none, sieve), Nothing)
                self.assertIs(refused(distance, sieve, none), Nothing)


class AsOneTest(unittest.TestCase):

    def test_against_the_words(self):
        for sieve in sample_sieves() + mixed_sieves():
            found = tuple(number for number in range(sieve.whole) if plain_fits(sieve.bars, number))
            self.assertEqual(as_one(sieve), Sieve(((sieve.whole, found),)))
            self.assertIs(alike(as_one(sieve), sieve), True)

    def test_none_and_all(self):
        self.assertEqual([as_one(ALL).bars, as_one(NONE).bars], [((1, (0,)),), ((12, ()),)])
        self.assertEqual(as_one(Sieve((full(4), full(6)))).bars, (full(12),))

    def test_a_whole_of_a_million_and_above(self):
        self.assertEqual(as_one(Sieve(((64, (1,)), (15625, (2, 3))))).whole, 1000000)
        self.assertEqual(as_one(Sieve(((1000000, (5,)),))).bars, ((1000000, (5,)),))
        self.assertIs(refused(as_one, Sieve(((1000, (1,)), (1001, (1,))))), TooGreat)
        # The least whole above 1000000 that bars can have: 1000001 = 101 * 9901.
        self.assertIs(refused(as_one, Sieve(((101, (1,)), (9901, (1,))))), TooGreat)
        self.assertIs(refused(as_one, Sieve(((101, ()), (9901, (1,))))), TooGreat)
        self.assertIs(refused(as_one, greatest_sieve()), TooGreat)

    def test_sixty_and_sixty_one_classes(self):
        # An even rest by 62 is left in two classes, an odd one in one.
        for odds, error in ((20, None), (21, TooMany)):
            lot = tuple(sorted([2 * many for many in range(20)] + [2 * many + 1 for many in range(odds)]))
            sieve = Sieve(((62, lot), (4, (0, 1, 2))))
            self.assertEqual(len(sieve.classes), 40 + odds)
            self.assertIs(refused(as_one, sieve), error)
        self.assertEqual(as_one(Sieve(((61, tuple(range(60))),))).bars, ((61, tuple(range(60))),))
        self.assertIs(refused(as_one, Sieve((full(7), full(9)))), TooMany)

    def test_which_error_comes_first(self):
        self.assertIs(refused(as_one, Sieve(((1009, tuple(range(40))), (1013, (0, 1))))), TooGreat)
        self.assertIs(refused(as_one, Sieve(((907, tuple(range(40))), (1013, (0, 1))))), TooMany)


class ThirtyFiguresTest(unittest.TestCase):

    def test_one_rest_less(self):
        for sieve in (greatest_sieve(), knotted_sieve()):
            for index, (modulus, lot) in enumerate(sieve.bars):
                bars = list(sieve.bars)
                bars[index] = (modulus, lot[1:])
                part = Sieve(tuple(bars))
                self.assertEqual([within(part, sieve), within(sieve, part), alike(part, sieve)], [True, False, False])
                lost = min(number for number in sieve.classes if number % modulus == lot[0])
                self.assertEqual([first_unlike(part, sieve), first_unlike(sieve, part)], [lost, lost])
                self.assertEqual([distance(part, sieve), distance(sieve, part)], [0, 0])

    def test_the_same_numbers(self):
        for sieve in (greatest_sieve(), knotted_sieve()):
            other = Sieve(sieve.bars[::-1])
            self.assertEqual([alike(sieve, other), first_unlike(sieve, other), sieve == other], [True, None, False])
            self.assertEqual(distance(sieve, other), 0)
        sieve = Sieve(greatest_sieve().bars[:3])
        self.assertEqual(both(sieve, Sieve(greatest_sieve().bars[3:])), greatest_sieve())

    def test_unlike_far_on(self):
        part = tuple((modulus, (0,)) for modulus in BELOW[:5])
        step = prod(BELOW[:5])
        lot = tuple(sorted(many * step % BELOW[5] for many in range(60)))
        self.assertEqual(first_unlike(Sieve(part), Sieve(part + ((BELOW[5], lot),))), 60 * step)
        self.assertEqual(first_unlike(Sieve(part + ((BELOW[5], lot),)), Sieve(part)), 60 * step)

    def test_unlike_beyond_the_limit(self):
        one = Sieve(tuple((modulus, (0,)) for modulus in BELOW))
        five = (1000000, 999999, 999997, 999991, 999989)
        other = Sieve(tuple((modulus, (0,)) for modulus in five))
        self.assertEqual(first_unlike(one, other), min(one.whole, other.whole))
        self.assertEqual([within(one, other), within(other, one)], [False, False])

    def test_wholes_of_thirty_figures_on_both_sides(self):
        one = greatest_sieve()
        lots = ((1, 2), (0, 9), (10, 11), (11, 12), (0, 1), (5, 8))
        other = Sieve(tuple(zip(BELOW, lots)))
        apart = [(number - one_number) % one.whole for number in other.classes for one_number in one.classes]
        self.assertEqual(distance(one, other), min(min(apart), one.whole - max(apart)))
        self.assertEqual(distance(other, one), distance(one, other))
        self.assertEqual(first_unlike(one, other), min(one.classes[0], other.classes[0]))
        other = Sieve(tuple(zip(BELOW[:2], ((100, 99990), (7, 8)))))
        apart = [(number - one_number) % other.whole for number in other.classes for one_number in one.classes]
        self.assertEqual(distance(one, other), min(min(apart), other.whole - max(apart)))

    def test_two_thousand_classes_on_one_side(self):
        one = Sieve(((1009, tuple(range(40))), (2003, tuple(range(50)))))
        lot = tuple(sorted({many * one.whole % 999983 for many in range(60)}))
        other = Sieve(((999983, lot),))
        found = [number for number in one.classes if number % 999983 not in lot]
        found.extend([number for number in lot if not plain_fits(one.bars, number)])
        self.assertEqual([first_unlike(one, other), first_unlike(other, one)], [min(found)] * 2)
        self.assertEqual([within(one, other), within(other, one)], [False, False])


class RepeatedTest(unittest.TestCase):

    def test_the_sieves_stay_as_they_were(self):
        bars = EXAMPLE.bars
        for function in (both, within, alike, first_unlike, distance):
            self.assertEqual(function(EXAMPLE, THIRDS), function(EXAMPLE, THIRDS))
            self.assertEqual([EXAMPLE.bars, EXAMPLE.classes, THIRDS.bars], [bars, (1, 10), ((3, (1,)),)])
        self.assertEqual(as_one(EXAMPLE), as_one(EXAMPLE))
        self.assertEqual([EXAMPLE.bars, EXAMPLE.classes], [bars, (1, 10)])

    def test_sieves_are_equal_if_their_bars_are(self):
        self.assertTrue(both(ALL, EXAMPLE) == EXAMPLE)
        self.assertTrue(both(EXAMPLE, ALL) == EXAMPLE)
        self.assertFalse(both(EXAMPLE, THIRDS) == both(THIRDS, EXAMPLE))
        self.assertFalse(as_one(EXAMPLE) == EXAMPLE)
        self.assertTrue(as_one(THIRDS) == THIRDS)


if __name__ == "__main__":
    unittest.main()
