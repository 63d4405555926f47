import copy
import unittest
from fractions import Fraction
from math import lcm

from restlots.errors import BadBars, BadNumber, TooGreat, TooMany
from restlots.joining import inverse
from restlots.sieves import Sieve, broken, fits, rests_of, share, whole_of
from samples import ABOVE, BELOW, LIMIT, NO_INTEGERS, NO_NUMBERS, full, greatest_sieve, plain_fits, small_rows

BAR = (4, (1, 2))


class SieveTest(unittest.TestCase):

    def assert_bad(self, bars, index):
        with self.assertRaises(BadBars) as caught:
            Sieve(bars)
        self.assertEqual(caught.exception.index, index, bars)

    def assert_bad_bar(self, bar):
        self.assert_bad((bar,), 0)
        self.assert_bad((BAR, (6, ()), bar, BAR, 0), 2)

    def test_example(self):
        sieve = Sieve(((4, (1, 2)), (6, (1, 4))))
        told = [sieve.whole, sieve.classes, fits(sieve, 13), broken(sieve, 7), rests_of(sieve, -1), share(sieve)]
        self.assertEqual(told, [12, (1, 10), True, [0], (3, 5), (1, 6)])
        self.assertEqual(Sieve(()).classes, (0,))

    def test_bars_whole_and_classes(self):
        for bars in small_rows():
            sieve = Sieve(bars)
            whole = lcm(*[modulus for modulus, _ in bars])
            self.assertEqual(sieve.bars, bars)
            self.assertEqual(sieve.whole, whole)
            self.assertEqual(sieve.classes, tuple(number for number in range(whole) if plain_fits(bars, number)))
            self.assertIs(type(sieve.classes), tuple)

    def test_no_bars(self):
        sieve = Sieve(())
        self.assertEqual((sieve.bars, sieve.whole, sieve.classes), ((), 1, (0,)))

    def test_properties_cannot_be_set(self):
        sieve = Sieve((BAR,))
        for name in ("bars", "whole", "classes"):
            self.assertIsInstance(getattr(Sieve, name), property)
            with self.assertRaises(AttributeError):
                setattr(sieve, name, ())

    def test_equal_if_the_bars_are(self):
        bars = ((4, (1, 2)), (6, (1, 4)))
        self.assertTrue(Sieve(bars) == Sieve(((4, (1, 2)), (6, (1, 4)))))
        self.assertFalse(Sieve(bars) != Sieve(((4, (1, 2)), (6, (1, 4)))))
        self.assertTrue(Sieve(()) == Sieve(()))
        for other in (bars[::-1], bars[:1], bars + bars, ((4, (1, 2)), (6, (1, 3))), ((12, (1, 10)),), ()):
            self.assertFalse(Sieve(bars) == Sieve(other))
            self.assertTrue(Sieve(bars) != Sieve(other))

    def test_equal_to_nothing_of_another_kind(self):
        for other in ((), ((4, (1, 2)),), [], None, 0, "", {}, True):
            self.assertFalse(Sieve(()) == other)
            self.assertFalse(Sieve((BAR,)) == other)
            self.assertTrue(Sieve((BAR,)) != other)

    def test_rows_that_are_no_rows(self):
        for value in NO_NUMBERS + [0, 1, -1, "bar", [BAR], {0: BAR}, "abc", (1,) * 7]:
            if not isinstance(value, tuple) or len(value) > 6:
                self.assert_bad(value, None)

    def test_six_and_seven_bars(self):
        self.assertEqual(Sieve((BAR,) * 6).classes, (1, 2))
        self.assert_bad((BAR,) * 7, None)
        self.assert_bad((0, None, "") + (BAR,) * 4, None)

    def test_things_that_are_no_bars(self):
        for value in NO_NUMBERS + [0, 1, "ab", (4,), (4, (1,), (2,)), [4, (1,)], {4: (1,), 5: 6}, ((1,), 4)]:
            self.assert_bad_bar(value)

    def test_the_first_wrong_bar_is_told(self):
        self.assert_bad((0,), 0)
        self.assert_bad((BAR, 0, None), 1)
        self.assert_bad((BAR, BAR, (3, (3,)), (0, ())), 2)
        self.assert_bad((BAR,) * 5 + ((3, [0]),), 5)

    def test_moduli(self):
        self.assertEqual(Sieve(((1, (0,)),)).classes, (0,))
        self.assertEqual(Sieve(((1, ()),)).classes, ())
        self.assertEqual(Sieve(((1000000, (0, 999999)),)).classes, (0, 999999))
        for modulus in NO_INTEGERS + [0, -1, -4, 1000001, LIMIT]:
            self.assert_bad_bar((modulus, ()))
            self.assert_bad_bar((modulus, (0,)))

    def test_lots_of_another_kind(self):
        for lot in [[], [1], {}, {1: 1}, None, True, 0, 1, "", "1", "01"]:
            self.assert_bad_bar((4, lot))

    def test_rests_of_another_kind(self):
        for rest in NO_INTEGERS:
            self.assert_bad_bar((4, (rest,)))
            self.assert_bad_bar((4, (0, rest)))
            self.assert_bad_bar((4, (rest, 3)))
        # False and True would ascend as 0 and 1 do.
        self.assert_bad_bar((4, (False, True, 2)))

    def test_rests_out_of_range(self):
        for lot in [(-1,), (4,), (0, 4), (-1, 0), (1, 2, 3, 4), (LIMIT,)]:
            self.assert_bad_bar((4, lot))
        self.assertEqual(Sieve(((4, (0, 3)),)).classes, (0, 3))

    def test_rests_that_do_not_ascend(self):
        for lot in [(1, 1), (2, 1), (0, 2, 2), (0, 3, 1), (3, 2, 1, 0)]:
            self.assert_bad_bar((4, lot))

    def test_sixty_and_sixty_one_rests(self):
        self.assertEqual(Sieve(((61, tuple(range(60))),)).classes, tuple(range(60)))
        self.assertEqual(Sieve((full(60),)).classes, tuple(range(60)))
        self.assert_bad_bar(full(61))
        self.assert_bad_bar((100, tuple(range(61))))

    def test_lots_of_all_rests_and_of_none(self):
        self.assertEqual(Sieve((full(4), full(6))).classes, tuple(range(12)))
        self.assertEqual(Sieve((full(4), (6, ()))).classes, ())
        self.assertEqual(Sieve(((4, (0, 2)), (6, (1, 3, 5)))).classes, ())

    def test_whole_up_to_its_limit(self):
        below = Sieve(tuple((modulus, (1,)) for modulus in BELOW))
        self.assertEqual(below.whole, 999999999944948816182013312164)
        self.assertEqual(below.classes, (1,))
        with self.assertRaises(TooGreat):
            Sieve(tuple((modulus, (1,)) for modulus in ABOVE))
        with self.assertRaises(TooGreat):
            Sieve(tuple((modulus, ()) for modulus in ABOVE))

    def test_common_measures_do_not_count_twice(self):
        five = (1000000, 999999, 999997, 999991, 999989)
        self.assertEqual(Sieve(tuple((modulus, (3,)) for modulus in five + (500000,))).classes, (3,))
        self.assertEqual(Sieve(((1000000, (7,)),) * 6).whole, 1000000)
        with self.assertRaises(TooGreat):
            Sieve(tuple((modulus, (3,)) for modulus in five + (23,)))

    def test_whole_of_exactly_the_limit(self):
        # No moduli that a bar may have lead to exactly 10 ** 30: 2 ** 30 would divide one of them.
        self.assertEqual(whole_of(((2 ** 30, ()), (5 ** 30, ()))), LIMIT)
        with self.assertRaises(TooGreat):
            whole_of(((LIMIT + 1, ()),))

    def test_two_thousand_choices(self):
        forty = (1009, tuple(range(40)))
        fifty = (2003, tuple(range(3, 53)))
        self.assertEqual(len(Sieve((forty, fifty)).classes), 2000)
        least_above = ((101, tuple(range(29))), (103, tuple(range(23))), (3, (0, 1, 2)))
        for bars in [least_above, (forty, fifty, (3, (0, 1))), (forty, (2003, tuple(range(51)))), (full(50), full(41))]:
            with self.assertRaises(TooMany):
                Sieve(bars)

    def test_an_empty_lot_counts_as_one(self):
        forty = (1009, tuple(range(40)))
        fifty = (2003, tuple(range(50)))
        self.assertEqual(Sieve((forty, (7, ()), fifty, (9, ()))).classes, ())
        for bars in [((7, ()), forty, fifty, (2, (0, 1))), (forty, fifty, (2, (0, 1)), (7, ()))]:
            with self.assertRaises(TooMany):
                Sieve(bars)

    def test_choices_count_though_they_clash(self):
        with self.assertRaises(TooMany):
            Sieve((full(10),) * 4)
        self.assertEqual(Sieve((full(10),) * 3).classes, tuple(range(10)))

    def test_which_error_comes_first(self):
        above = tuple((modulus, (0, 1, 2, 3)) for modulus in ABOVE)
        with self.assertRaises(TooGreat):
            Sieve(above)
        with self.assertRaises(TooMany):
            Sieve(tuple((modulus, (0, 1, 2, 3)) for modulus in BELOW))
        self.assert_bad(above[:5] + ((4, (4,)),), 5)
        self.assert_bad(above + (0,), None)
        self.assert_bad((full(50), full(50), (0, ())), 2)

    def test_thirty_figures_with_two_thousand_classes(self):
        sieve = greatest_sieve()
        self.assertEqual(sieve.whole, 999999999944948816182013312164)
        self.assertEqual(len(sieve.classes), 2000)
        self.assertEqual(list(sieve.classes), sorted(set(sieve.classes)))
        self.assertTrue(0 <= sieve.classes[0] and sieve.classes[-1] < sieve.whole)
        self.assertTrue(all(plain_fits(sieve.bars, number) for number in sieve.classes))

    def test_inverse(self):
        self.assertEqual(inverse(5, 1), 0)
        for modulus in (2, 3, 7, 60, 999983):
            self.assertEqual(inverse(1, modulus), 1)
            self.assertEqual(inverse(modulus - 1, modulus), modulus - 1)
            self.assertEqual(inverse(10 ** 30 * modulus + 1, modulus), 1)
        self.assertEqual(inverse(3, 7), 5)


class NumbersTest(unittest.TestCase):

    def test_against_the_words(self):
        for bars in small_rows():
            sieve = Sieve(bars)
            for number in range(-sieve.whole - 3, 2 * sieve.whole + 3):
                wrong = [index for index, (modulus, lot) in enumerate(bars) if number % modulus not in lot]
                self.assertEqual(broken(sieve, number), wrong)
                self.assertIs(fits(sieve, number), wrong == [])
                self.assertEqual(rests_of(sieve, number), tuple(number % modulus for modulus, _ in bars))

    def test_rests_of_numbers_below_zero(self):
        self.assertEqual(rests_of(Sieve(((4, ()), (5, ()), (1, ()))), -1), (3, 4, 0))
        self.assertTrue(fits(Sieve(((4, (3,)),)), -1))
        self.assertTrue(fits(Sieve(((4, (0,)),)), -4))
        self.assertFalse(fits(Sieve(((4, (1,)),)), -1))

    def test_without_bars_all_numbers_fit(self):
        for number in (-LIMIT, -1, 0, 1, LIMIT):
            self.assertIs(fits(Sieve(()), number), True)
            self.assertEqual(broken(Sieve(()), number), [])
            self.assertEqual(rests_of(Sieve(()), number), ())

    def test_numbers_up_to_the_limits(self):
        sieve = Sieve(((7, (1,)), (9, (1,)), (7, (6,))))
        self.assertEqual((LIMIT % 7, LIMIT % 9), (1, 1))
        self.assertEqual((rests_of(sieve, LIMIT), broken(sieve, LIMIT)), ((1, 1, 1), [2]))
        self.assertEqual((rests_of(sieve, -LIMIT), broken(sieve, -LIMIT)), ((6, 8, 6), [0, 1]))
        self.assertIs(fits(sieve, LIMIT), False)

    def test_wrong_numbers(self):
        for sieve in (Sieve(()), Sieve((BAR,)), Sieve(((4, ()),))):
            for function in (fits, broken, rests_of):
                for value in NO_NUMBERS:
                    with self.assertRaises(BadNumber):
                        function(sieve, value)

    def test_share(self):
        for bars in small_rows():
            sieve = Sieve(bars)
            part = Fraction(len(sieve.classes), sieve.whole)
            self.assertEqual(share(sieve), (part.numerator, part.denominator))
        self.assertEqual(share(Sieve(((4, ()), (6, (1,))))), (0, 1))
        self.assertEqual(share(Sieve(())), (1, 1))
        self.assertEqual(share(Sieve((full(4), full(6)))), (1, 1))
        part = Fraction(2000, 999999999944948816182013312164)
        self.assertEqual(share(greatest_sieve()), (part.numerator, part.denominator))

    def test_nothing_is_modified_and_calls_repeat(self):
        bars = ((4, (1, 2)), (6, (1, 4)))
        before = copy.deepcopy(bars)
        sieve = Sieve(bars)
        told = broken(sieve, 0)
        told.append(9)
        self.assertEqual(broken(sieve, 0), [0, 1])
        self.assertIsNot(broken(sieve, 0), broken(sieve, 0))
        for function in (fits, broken, rests_of):
            self.assertEqual(function(sieve, 7), function(sieve, 7))
        self.assertEqual(share(sieve), share(sieve))
        self.assertEqual((bars, sieve.bars, sieve.whole, sieve.classes), (before, before, 12, (1, 10)))


if __name__ == "__main__":
    unittest.main()
