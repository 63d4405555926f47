import unittest
from itertools import combinations
from math import lcm

from restlots.errors import BadModulus, BadPlace, BadRests, Nothing
from restlots.lots import (
    greatest_sure, idle_rests, narrowed, needless, rests, smallest_kept, sure_rest, tight, without)
from restlots.sieves import Sieve
from samples import (
    BELOW, LIMIT, NO_INTEGERS, full, greatest_sieve, knotted_sieve, mixed_sieves, plain_fits, refused, sample_sieves)

EXAMPLE = Sieve(((4, (1, 2)), (6, (1, 4))))
ODD = Sieve(((4, (1, 2)), (2, (1,))))
ALL = Sieve(())
NONE = Sieve(((4, (0, 2)), (6, (1, 3, 5))))


def all_sieves():
    return sample_sieves() + mixed_sieves()


def fitting_sieves():
    return [sieve for sieve in all_sieves() if sieve.classes != ()]


def plain_list(bars, whole):
    return [number for number in range(whole) if plain_fits(bars, number)]


def index_sets(sieve, many):
    return combinations(range(len(sieve.bars)), many)


def plain_enough(sieve, indexes):
    """Tell whether by these bars alone the same numbers fit, straight from the words."""
    part = [sieve.bars[index] for index in indexes]
    return plain_list(part, sieve.whole) == plain_list(sieve.bars, sieve.whole)


class ExampleTest(unittest.TestCase):

    def test_left_out(self):
        self.assertEqual([needless(EXAMPLE), needless(ODD), smallest_kept(tight(ODD))], [[], [], [(0,)]])
        self.assertEqual([idle_rests(ODD), tight(ODD).bars], [[(2,), ()], ((4, (1,)), (2, (1,)))])

    def test_sure(self):
        told = [rests(EXAMPLE, 3), sure_rest(EXAMPLE, 3), sure_rest(EXAMPLE, 4), greatest_sure(EXAMPLE)]
        self.assertEqual(told, [[1], 1, None, (3, 1)])

    def test_other_sieves(self):
        self.assertEqual(without(EXAMPLE, 0).bars, ((6, (1, 4)),))
        self.assertEqual(narrowed(EXAMPLE, 0, (1, 3)).bars, ((4, (1,)), (6, (1, 4))))


class NeedlessTest(unittest.TestCase):

    def test_needless_against_the_words(self):
        for sieve in all_sieves():
            found = []
            for index in range(len(sieve.bars)):
                if plain_enough(sieve, [other for other in range(len(sieve.bars)) if other != index]):
                    found.append(index)
            self.assertEqual(needless(sieve), found, sieve.bars)

    def test_smallest_kept_against_the_words(self):
        for sieve in all_sieves():
            sizes = [[one for one in index_sets(sieve, many) if plain_enough(sieve, one)]
                     for many in range(len(sieve.bars) + 1)]
            self.assertEqual(smallest_kept(sieve), [found for found in sizes if found][0], sieve.bars)

    def test_no_bars_and_bars_that_all_fit(self):
        self.assertEqual([needless(ALL), smallest_kept(ALL)], [[], [()]])
        sieve = Sieve((full(4), full(6), full(4)))
        self.assertEqual([needless(sieve), smallest_kept(sieve)], [[0, 1, 2], [()]])

    def test_equal_bars(self):
        sieve = Sieve(((4, (1, 2)), (4, (1, 2))))
        self.assertEqual([needless(sieve), smallest_kept(sieve)], [[0, 1], [(0,), (1,)]])

    def test_bars_that_others_tell(self):
        sieve = Sieve(((6, (0,)), (10, (0,)), (15, (0,))))
        self.assertEqual([needless(sieve), smallest_kept(sieve)], [[0, 1, 2], [(0, 1), (0, 2), (1, 2)]])
        sieve = Sieve(((2, (1,)), (3, (2,)), (6, (5,)), (7, (0, 1))))
        self.assertEqual([needless(sieve), smallest_kept(sieve)], [[0, 1, 2], [(2, 3)]])
        sieve = Sieve(((7, (0, 1)), (6, (5,)), (3, (2,)), (2, (1,))))
        self.assertEqual([needless(sieve), smallest_kept(sieve)], [[1, 2, 3], [(0, 1)]])

    def test_no_number_fits(self):
        self.assertEqual([needless(NONE), smallest_kept(NONE)], [[], [(0, 1)]])
        sieve = Sieve(((5, ()), (3, (1,)), (7, ())))
        self.assertEqual([needless(sieve), smallest_kept(sieve)], [[0, 1, 2], [(0,), (2,)]])
        sieve = Sieve(((5, ()), (3, (1,))))
        self.assertEqual([needless(sieve), smallest_kept(sieve)], [[1], [(0,)]])

    def test_as_few_as_can_be(self):
        # Without bar 0, none of the other three can be left out: but bar 0 with bar 3 is a smaller set.
        sieve = Sieve(((30, (0,)), (2, (0,)), (15, (0,)), (7, (3,))))
        self.assertEqual(smallest_kept(sieve), [(0, 3)])

    def test_the_rest_leaves_the_same_numbers(self):
        for sieve in all_sieves():
            for kept in smallest_kept(sieve):
                left = Sieve(tuple(sieve.bars[index] for index in kept))
                numbers = range(-sieve.whole, 2 * sieve.whole)
                for number in numbers:
                    self.assertEqual(plain_fits(left.bars, number), plain_fits(sieve.bars, number))


class IdleTest(unittest.TestCase):

    def test_idle_rests_against_the_words(self):
        for sieve in all_sieves():
            numbers = plain_list(sieve.bars, sieve.whole)
            found = []
            for modulus, lot in sieve.bars:
                left = [number % modulus for number in numbers]
                found.append(tuple(rest for rest in lot if rest not in left))
            self.assertEqual(idle_rests(sieve), found, sieve.bars)

    def test_tight_against_the_words(self):
        for sieve in all_sieves():
            bars = []
            for (modulus, lot), idle in zip(sieve.bars, idle_rests(sieve)):
                bars.append((modulus, tuple(sorted(set(lot) - set(idle)))))
            self.assertEqual(tight(sieve).bars, tuple(bars))
            self.assertIsInstance(tight(sieve), Sieve)

    def test_all_idle_rests_can_be_left_out_together(self):
        for sieve in all_sieves() + [knotted_sieve()]:
            left = tight(sieve)
            self.assertEqual((left.whole, left.classes), (sieve.whole, sieve.classes))
            self.assertEqual(idle_rests(left), [()] * len(sieve.bars))

    def test_none_and_all(self):
        self.assertEqual([idle_rests(ALL), tight(ALL) == ALL], [[], True])
        self.assertEqual(idle_rests(Sieve((full(4), full(6)))), [(), ()])
        self.assertEqual([idle_rests(NONE), tight(NONE).bars], [[(0, 2), (1, 3, 5)], ((4, ()), (6, ()))])
        self.assertEqual(idle_rests(Sieve(((5, ()), (3, (0, 2))))), [(), (0, 2)])


class WithoutTest(unittest.TestCase):

    def test_each_index(self):
        for sieve in all_sieves():
            for index in range(len(sieve.bars)):
                bars = list(sieve.bars)
                del bars[index]
                self.assertEqual(without(sieve, index), Sieve(tuple(bars)))

    def test_of_equal_bars_just_one(self):
        self.assertEqual(without(Sieve(((4, (1,)),) * 3), 1).bars, ((4, (1,)),) * 2)

    def test_wrong_indexes(self):
        for sieve in (EXAMPLE, ODD, NONE):
            for index in NO_INTEGERS + [-1, -2, 2, 3, LIMIT, -LIMIT]:
                self.assertIs(refused(without, sieve, index), BadPlace)
                self.assertIs(refused(narrowed, sieve, index, (1,)), BadPlace)
        for index in (-1, 0, 1):
            self.assertIs(refused(without, ALL, index), BadPlace)
            self.assertIs(refused(narrowed, ALL, index, ()), BadPlace)
        six = Sieve(((3, (1,)),) * 6)
        self.assertEqual([len(without(six, index).bars) for index in range(6)], [5] * 6)
        self.assertIs(refused(without, six, 6), BadPlace)


class NarrowedTest(unittest.TestCase):

    def test_against_the_words(self):
        for sieve in mixed_sieves():
            for index, (modulus, lot) in enumerate(sieve.bars):
                for told in [(), (0,), (modulus - 1,), lot, tuple(range(0, modulus, 2)), full(modulus)[1]]:
                    bars = list(sieve.bars)
                    bars[index] = (modulus, tuple(sorted(set(lot) & set(told))))
                    self.assertEqual(narrowed(sieve, index, told), Sieve(tuple(bars)))

    def test_lots_of_none_of_all_and_of_others(self):
        self.assertEqual(narrowed(EXAMPLE, 1, ()).bars, ((4, (1, 2)), (6, ())))
        self.assertEqual(narrowed(EXAMPLE, 1, (0, 1, 2, 3, 4, 5)), EXAMPLE)
        self.assertEqual(narrowed(EXAMPLE, 1, (0, 2, 3, 5)).bars, ((4, (1, 2)), (6, ())))
        self.assertEqual(narrowed(EXAMPLE, 1, (0, 4, 5)).bars, ((4, (1, 2)), (6, (4,))))

    def test_wrong_lots(self):
        lots = [value for value in NO_INTEGERS + [0, 1, LIMIT] if value not in ((), (3,))]
        lots.extend([[1, 2], (True,), (False, 1), (1, True), ("1",), (None,), ((1,),), ([1],), ({},)])
        lots.extend([(-1,), (4,), (1, 4), (1, 1), (2, 1), (0, 1, 3, 2), (LIMIT,)])
        for lot in lots:
            self.assertIs(refused(narrowed, EXAMPLE, 0, lot), BadRests, lot)
            self.assertIs(refused(narrowed, NONE, 0, lot), BadRests, lot)

    def test_the_modulus_is_that_of_the_bar(self):
        self.assertIs(refused(narrowed, EXAMPLE, 0, (5,)), BadRests)
        self.assertEqual(narrowed(EXAMPLE, 1, (5,)).bars, ((4, (1, 2)), (6, ())))

    def test_sixty_and_sixty_one_rests(self):
        sieve = Sieve(((100, (3, 59, 60, 61)),))
        self.assertEqual(narrowed(sieve, 0, tuple(range(60))).bars, ((100, (3, 59)),))
        self.assertIs(refused(narrowed, sieve, 0, tuple(range(61))), BadRests)

    def test_the_index_comes_first(self):
        for lot in ([1], True, (4,), (2, 1)):
            self.assertIs(refused(narrowed, EXAMPLE, 2, lot), BadPlace)
            self.assertIs(refused(narrowed, EXAMPLE, False, lot), BadPlace)


class RestsTest(unittest.TestCase):

    def test_against_the_words(self):
        for sieve in all_sieves():
            for modulus in (1, 2, 3, 4, 5, 6, 9):
                found = plain_list(sieve.bars, lcm(sieve.whole, modulus))
                self.assertEqual(rests(sieve, modulus), sorted({number % modulus for number in found}))

    def test_up_to_the_limits(self):
        self.assertEqual([rests(EXAMPLE, 1), rests(ALL, 1), rests(NONE, 1)], [[0], [0], []])
        self.assertEqual([rests(ALL, 1000), rests(NONE, 1000)], [list(range(1000)), []])
        self.assertEqual(rests(Sieve(((1000000, (3, 1999, 500003)),)), 1000), [3, 999])
        self.assertEqual(rests(EXAMPLE, 1000), [rest for rest in range(1000) if rest % 4 in (1, 2)])

    def test_wrong_moduli(self):
        for sieve in (EXAMPLE, ALL, NONE):
            for modulus in NO_INTEGERS + [0, -1, -7, 1001, LIMIT]:
                self.assertIs(refused(rests, sieve, modulus), BadModulus)


class SureTest(unittest.TestCase):

    def test_sure_rest_against_the_words(self):
        for sieve in fitting_sieves():
            for modulus in range(1, 14):
                left = {number % modulus for number in plain_list(sieve.bars, lcm(sieve.whole, modulus))}
                self.assertEqual(sure_rest(sieve, modulus), min(left) if len(left) == 1 else None)

    def test_greatest_sure_against_the_words(self):
        for sieve in fitting_sieves():
            numbers = plain_list(sieve.bars, 2 * sieve.whole)
            # A modulus that leaves one rest measures whole, so none above it does.
            sure = [modulus for modulus in range(1, sieve.whole + 1) if len({one % modulus for one in numbers}) == 1]
            self.assertEqual(greatest_sure(sieve), (max(sure), numbers[0] % max(sure)))

    def test_all_numbers_fit(self):
        for sieve in (ALL, Sieve((full(4), full(6)))):
            self.assertEqual([greatest_sure(sieve), sure_rest(sieve, 1), sure_rest(sieve, 2)], [(1, 0), 0, None])

    def test_up_to_the_limits(self):
        sieve = Sieve(((1000000, (7,)),))
        self.assertEqual([sure_rest(sieve, 1), sure_rest(sieve, 1000000)], [0, 7])
        self.assertEqual([sure_rest(sieve, 999999), sure_rest(sieve, 500000), sure_rest(sieve, 5)], [None, 7, 2])
        self.assertEqual(sure_rest(Sieve(((1000, (7,)), (1001, (1000,)))), 1000000), None)

    def test_wrong_moduli(self):
        for sieve in (EXAMPLE, ALL, NONE):
            for modulus in NO_INTEGERS + [0, -1, -7, 1000001, LIMIT]:
                self.assertIs(refused(sure_rest, sieve, modulus), BadModulus)

    def test_nothing(self):
        for sieve in (NONE, Sieve(((1, ()),)), Sieve((full(3), (5, ())))):
            self.assertIs(refused(greatest_sure, sieve), Nothing)
            for modulus in (1, 3, 1000000):
                self.assertIs(refused(sure_rest, sieve, modulus), Nothing)


class ThirtyFiguresTest(unittest.TestCase):

    def test_left_out(self):
        sieve = greatest_sieve()
        self.assertEqual([needless(sieve), smallest_kept(sieve)], [[], [(0, 1, 2, 3, 4, 5)]])
        self.assertEqual([idle_rests(sieve), tight(sieve) == sieve], [[()] * 6, True])
        sieve = knotted_sieve()
        self.assertEqual([needless(sieve), smallest_kept(sieve)], [[], [(0, 1, 2, 3, 4, 5)]])
        self.assertEqual(idle_rests(sieve), [(11, 12), (), (), (), (), (20, 30)])
        self.assertEqual(tight(sieve).bars[0], (1000000, (3, 10, 500007)))
        self.assertEqual(needless(tight(sieve)), [5])
        self.assertEqual(smallest_kept(tight(sieve)), [(0, 1, 2, 3, 4)])

    def test_other_sieves(self):
        sieve = greatest_sieve()
        for index, (modulus, lot) in enumerate(sieve.bars):
            left = without(sieve, index)
            self.assertEqual(len(left.classes) * len(lot), 2000)
            self.assertEqual(left.bars, sieve.bars[:index] + sieve.bars[index + 1:])
            part = narrowed(sieve, index, lot[1:])
            self.assertEqual(part.classes, tuple(one for one in sieve.classes if one % modulus in lot[1:]))

    def test_rests(self):
        sieve = greatest_sieve()
        self.assertEqual(rests(sieve, 997), list(range(997)))
        # 4 is the common measure of the whole and 1000.
        left = {number % 4 for number in sieve.classes}
        self.assertEqual(rests(sieve, 1000), [rest for rest in range(1000) if rest % 4 in left])
        self.assertEqual(rests(knotted_sieve(), 1000), [3, 7, 10])
        self.assertEqual([sure_rest(sieve, 1), sure_rest(sieve, 23884), sure_rest(knotted_sieve(), 5)], [0, None, None])

    def test_greatest_sure_far_above_a_million(self):
        sieve = Sieve(tuple((modulus, (modulus - 1,)) for modulus in BELOW))
        self.assertEqual(greatest_sure(sieve), (sieve.whole, sieve.whole - 1))
        self.assertEqual([sure_rest(sieve, modulus) for modulus, _ in sieve.bars], [one - 1 for one in BELOW])
        self.assertEqual(sure_rest(sieve, 4 * 7 * 419), None)
        self.assertEqual(sure_rest(sieve, 4 * 7), 27)
        lots = [(3, 503), (8,), (9,), (2,), (1, 2)]
        sieve = Sieve(tuple(zip((1000000, 999999, 999997, 999991, 999989), lots)))
        modulus, rest = greatest_sure(sieve)
        self.assertEqual(modulus, 500 * 999999 * 999997 * 999991)
        self.assertEqual([rest % one for one in (500, 999999, 999997, 999991)], [3, 8, 9, 2])
        self.assertTrue(0 <= rest < modulus)


class RepeatedTest(unittest.TestCase):

    def test_lists_are_new_and_calls_repeat(self):
        for sieve in (EXAMPLE, ODD, ALL, NONE):
            for function, more in [(needless, ()), (smallest_kept, ()), (idle_rests, ()), (rests, (3,))]:
                before = list(function(sieve, *more))
                function(sieve, *more).append(None)
                self.assertEqual(function(sieve, *more), before)

    def test_the_sieve_stays_as_it_was(self):
        bars = ((4, (1, 2)), (2, (1,)))
        for function, more in [
                (needless, ()), (smallest_kept, ()), (idle_rests, ()), (tight, ()), (without, (0,)),
                (narrowed, (0, (1,))), (rests, (3,)), (sure_rest, (3,)), (greatest_sure, ())]:
            self.assertEqual(function(ODD, *more), function(ODD, *more))
            self.assertEqual((ODD.bars, ODD.whole, ODD.classes), (bars, 4, (1,)))


if __name__ == "__main__":
    unittest.main()
