import unittest

from restlots.errors import BadNumber, BadStretch, Nothing, TooMany
from restlots.sieves import Sieve, fits
from restlots.stretches import (
    count, last_one, listed, longest_gap, longest_run, nearest_to, next_one, numbered, steps)
from samples import LIMIT, NO_NUMBERS, full, greatest_sieve, plain_fits, small_rows

EXAMPLE = Sieve(((4, (1, 2)), (6, (1, 4))))
ALL = Sieve(())
NONE = Sieve(((4, (0, 2)), (6, (1, 3, 5))))


def small_sieves():
    return [Sieve(bars) for bars in small_rows()]


def fitting_sieves():
    return [sieve for sieve in small_sieves() if sieve.classes != ()]


def plain_list(sieve, begin, end):
    return [number for number in range(begin, end) if plain_fits(sieve.bars, number)]


def plain_longest(sieve, whether):
    """The longest stretch of numbers of which it is told whether they fit; it has an end."""
    best = (0, 0)
    for begin in range(sieve.whole):
        end = begin
        while plain_fits(sieve.bars, end) is whether:
            end += 1
        if end - begin > best[0]:
            best = (end - begin, begin)
    return best


class ExampleTest(unittest.TestCase):

    def test_counted_and_next(self):
        sieve = EXAMPLE
        self.assertEqual(count(sieve, 0, 100), 17)
        self.assertEqual(count(sieve, 0, 10 ** 30), (10 ** 30 - 4) // 6 + 1)
        self.assertEqual([numbered(sieve, 0, 2), next_one(sieve, 2), last_one(sieve, 0)], [13, 10, -2])

    def test_near_and_longest(self):
        sieve = EXAMPLE
        self.assertEqual([nearest_to(sieve, 11), listed(sieve, -3, 14)], [[10], [-2, 1, 10, 13]])
        self.assertEqual([longest_gap(sieve), steps(sieve), longest_run(sieve)], [(8, 2), [(3, 1), (9, 1)], (1, 1)])


class CountTest(unittest.TestCase):

    def test_against_the_words(self):
        for sieve in small_sieves():
            for begin in range(-7, 8):
                for end in range(begin, begin + 2 * min(sieve.whole, 12) + 2, 3):
                    found = plain_list(sieve, begin, end)
                    self.assertEqual(count(sieve, begin, end), len(found))
                    self.assertEqual(listed(sieve, begin, end), found)

    def test_stretch_of_no_numbers(self):
        for sieve in (EXAMPLE, ALL, NONE):
            for begin in (-LIMIT, -5, 0, 1, 10, LIMIT):
                self.assertEqual(count(sieve, begin, begin), 0)
                self.assertEqual(listed(sieve, begin, begin), [])

    def test_begin_counts_and_end_does_not(self):
        self.assertEqual([count(EXAMPLE, 1, 10), count(EXAMPLE, 2, 11), count(EXAMPLE, 1, 11)], [1, 1, 2])
        self.assertEqual([listed(EXAMPLE, 1, 10), listed(EXAMPLE, 2, 11)], [[1], [10]])

    def test_no_number_fits(self):
        self.assertEqual(count(NONE, -LIMIT, LIMIT), 0)
        self.assertEqual(listed(NONE, -LIMIT, LIMIT), [])

    def test_up_to_the_limits(self):
        self.assertEqual(count(ALL, -LIMIT, LIMIT), 2 * LIMIT)
        self.assertEqual(count(Sieve(((1000000, (999999,)),)), -LIMIT, LIMIT), 2 * 10 ** 24)
        self.assertEqual(listed(ALL, LIMIT - 2, LIMIT), [LIMIT - 2, LIMIT - 1])
        self.assertEqual(listed(ALL, -LIMIT, -LIMIT + 2), [-LIMIT, -LIMIT + 1])

    def test_wrong_stretches(self):
        wrong = [(value, 5) for value in NO_NUMBERS] + [(5, value) for value in NO_NUMBERS]
        wrong.extend([(1, 0), (0, -1), (LIMIT, -LIMIT), (True, True), (LIMIT, LIMIT + 1), (-LIMIT - 1, -LIMIT)])
        for sieve in (EXAMPLE, ALL, NONE):
            for begin, end in wrong:
                for function in (count, listed):
                    with self.assertRaises(BadStretch):
                        function(sieve, begin, end)

    def test_five_hundred_and_one_more(self):
        self.assertEqual(listed(ALL, -3, 497), list(range(-3, 497)))
        with self.assertRaises(TooMany):
            listed(ALL, -3, 498)
        self.assertEqual(listed(Sieve(((1000, (7,)),)), 0, 500000), list(range(7, 500000, 1000)))
        self.assertEqual(len(listed(Sieve(((1000, (7,)),)), 7, 500007)), 500)
        with self.assertRaises(TooMany):
            listed(Sieve(((1000, (7,)),)), 7, 500008)
        with self.assertRaises(TooMany):
            listed(EXAMPLE, -LIMIT, LIMIT)

    def test_a_whole_counts_its_classes_wherever_it_begins(self):
        for sieve in small_sieves() + [greatest_sieve()]:
            for begin in (-LIMIT, -sieve.whole, -7, -1, 0, 1, 2, 5, 100):
                for times in (0, 1, 2):
                    if begin + times * sieve.whole <= LIMIT:
                        many = times * len(sieve.classes)
                        self.assertEqual(count(sieve, begin, begin + times * sieve.whole), many)


class NumberedTest(unittest.TestCase):

    def test_against_the_words(self):
        for sieve in fitting_sieves():
            for begin in (-13, -5, -1, 0, 1, 2, 8):
                found = plain_list(sieve, begin, begin + 2 * sieve.whole)
                self.assertEqual([numbered(sieve, begin, index) for index in range(len(found))], found)

    def test_goes_together_with_count(self):
        for sieve in fitting_sieves():
            for begin in (-LIMIT, -4, 0, 3):
                for index in (0, 1, 2, 17, 1000):
                    number = numbered(sieve, begin, index)
                    self.assertTrue(fits(sieve, number))
                    self.assertEqual(count(sieve, begin, number), index)

    def test_up_to_the_limits(self):
        self.assertEqual(numbered(ALL, -LIMIT, LIMIT), 0)
        self.assertEqual(numbered(ALL, LIMIT, 0), LIMIT)
        self.assertEqual(numbered(ALL, LIMIT, LIMIT), 2 * LIMIT)
        self.assertEqual(numbered(Sieve(((1000000, (3,)),)), 0, LIMIT), 10 ** 36 + 3)

    def test_wrong_begins_and_indexes(self):
        for sieve in (EXAMPLE, ALL, NONE):
            for value in NO_NUMBERS:
                with self.assertRaises(BadNumber):
                    numbered(sieve, value, 0)
                with self.assertRaises(BadNumber):
                    numbered(sieve, 0, value)
            with self.assertRaises(BadNumber):
                numbered(sieve, 0, -1)

    def test_nothing(self):
        with self.assertRaises(Nothing):
            numbered(NONE, 0, 0)


class NextTest(unittest.TestCase):

    def test_against_the_words(self):
        for sieve in fitting_sieves():
            around = plain_list(sieve, -3 * sieve.whole - 3, 4 * sieve.whole + 3)
            for number in range(-sieve.whole - 3, 2 * sieve.whole + 3):
                apart = min(abs(one - number) for one in around)
                self.assertEqual(next_one(sieve, number), min(one for one in around if one >= number))
                self.assertEqual(last_one(sieve, number), max(one for one in around if one <= number))
                self.assertEqual(nearest_to(sieve, number), [one for one in around if abs(one - number) == apart])

    def test_nearest_one_or_two(self):
        sieve = Sieve(((10, (2, 6)),))
        self.assertEqual([nearest_to(sieve, number) for number in (2, 3, 4, 5, 6)], [[2], [2], [2, 6], [6], [6]])
        self.assertEqual([nearest_to(sieve, 9), nearest_to(sieve, -1)], [[6, 12], [-4, 2]])

    def test_up_to_the_limits(self):
        sieve = Sieve(((1000000, (5, 8)),))
        self.assertEqual([next_one(sieve, LIMIT), last_one(sieve, LIMIT)], [LIMIT + 5, LIMIT - 999992])
        self.assertEqual([next_one(sieve, -LIMIT), last_one(sieve, -LIMIT)], [5 - LIMIT, -LIMIT - 999992])
        self.assertEqual([nearest_to(sieve, LIMIT), nearest_to(sieve, -LIMIT)], [[LIMIT + 5], [5 - LIMIT]])
        self.assertEqual([next_one(ALL, LIMIT), last_one(ALL, LIMIT), nearest_to(ALL, LIMIT)], [LIMIT, LIMIT, [LIMIT]])

    def test_wrong_numbers(self):
        for sieve in (EXAMPLE, ALL, NONE):
            for value in NO_NUMBERS:
                for function in (next_one, last_one, nearest_to):
                    with self.assertRaises(BadNumber):
                        function(sieve, value)

    def test_nothing(self):
        for function in (next_one, last_one, nearest_to):
            for sieve in (NONE, Sieve(((1, ()),)), Sieve((full(3), (5, ())))):
                with self.assertRaises(Nothing):
                    function(sieve, 0)


class StepsTest(unittest.TestCase):

    def test_steps_against_the_words(self):
        for sieve in fitting_sieves():
            found = []
            for number in sieve.classes:
                found.append(plain_list(sieve, number + 1, number + 1 + sieve.whole)[0] - number)
            self.assertEqual(steps(sieve), [(step, found.count(step)) for step in sorted(set(found))])

    def test_longest_against_the_words(self):
        for sieve in fitting_sieves():
            if len(sieve.classes) == sieve.whole:
                self.assertEqual(longest_gap(sieve), (0, 0))
                self.assertIsNone(longest_run(sieve))
            else:
                self.assertEqual(longest_gap(sieve), plain_longest(sieve, False))
                self.assertEqual(longest_run(sieve), plain_longest(sieve, True))

    def test_all_numbers_fit(self):
        for sieve in (ALL, Sieve((full(1),)), Sieve((full(4), full(6))), Sieve((full(50), full(40)))):
            self.assertEqual([longest_gap(sieve), longest_run(sieve)], [(0, 0), None])
            self.assertEqual(steps(sieve), [(1, sieve.whole)])

    def test_one_class(self):
        sieve = Sieve(((10, (4,)),))
        self.assertEqual([steps(sieve), longest_gap(sieve), longest_run(sieve)], [[(10, 1)], (9, 5), (1, 4)])

    def test_stretches_over_the_end_of_the_whole(self):
        self.assertEqual(longest_gap(Sieve(((10, (2, 3, 7)),))), (4, 8))
        self.assertEqual(longest_gap(Sieve(((10, (4, 6, 9)),))), (4, 0))
        self.assertEqual(longest_run(Sieve(((10, (0, 1, 4, 5, 9)),))), (3, 9))
        self.assertEqual(longest_run(Sieve(((10, (0, 1, 2, 3, 4, 5, 6, 8, 9)),))), (9, 8))

    def test_of_several_the_least_first_number(self):
        self.assertEqual(longest_gap(Sieve(((10, (0, 5)),))), (4, 1))
        self.assertEqual(longest_gap(Sieve(((10, (4, 9)),))), (4, 0))
        self.assertEqual(longest_run(Sieve(((10, (0, 3, 4, 7, 9)),))), (2, 3))
        self.assertEqual(longest_run(Sieve(((10, (2, 5)),))), (1, 2))

    def test_nothing(self):
        for function in (steps, longest_gap, longest_run):
            for sieve in (NONE, Sieve(((1, ()),))):
                with self.assertRaises(Nothing):
                    function(sieve)


class ThirtyFiguresTest(unittest.TestCase):

    def test_counted_and_numbered(self):
        sieve = greatest_sieve()
        self.assertEqual(count(sieve, 0, sieve.whole), 2000)
        self.assertEqual(listed(sieve, 0, sieve.classes[500]), list(sieve.classes[:500]))
        with self.assertRaises(TooMany):
            listed(sieve, 0, sieve.classes[500] + 1)
        for index in (0, 1, 999, 1999):
            number = sieve.classes[index]
            self.assertEqual(numbered(sieve, 0, index), number)
            self.assertEqual(numbered(sieve, -LIMIT, count(sieve, -LIMIT, number)), number)
            self.assertEqual(count(sieve, 0, number), index)
            self.assertEqual([next_one(sieve, number), last_one(sieve, number)], [number, number])
            self.assertEqual(last_one(sieve, number - 1), sieve.classes[index - 1] - (index == 0) * sieve.whole)
        self.assertEqual(numbered(sieve, 0, 2000 * 10 ** 26 + 3), 10 ** 26 * sieve.whole + sieve.classes[3])

    def test_next_beyond_the_limit(self):
        sieve = Sieve(tuple((modulus, (0,)) for modulus, _ in greatest_sieve().bars))
        self.assertEqual(next_one(sieve, LIMIT), 2 * sieve.whole)
        self.assertEqual(last_one(sieve, -LIMIT), -2 * sieve.whole)
        self.assertEqual(nearest_to(sieve, LIMIT), [sieve.whole])

    def test_steps_and_longest(self):
        sieve = greatest_sieve()
        told = steps(sieve)
        self.assertEqual(told, sorted(told))
        self.assertEqual(sum(often for _, often in told), 2000)
        self.assertEqual(sum(step * often for step, often in told), sieve.whole)
        many, begin = longest_gap(sieve)
        self.assertEqual(many, told[-1][0] - 1)
        self.assertTrue(0 <= begin < sieve.whole)
        self.assertEqual([last_one(sieve, begin), next_one(sieve, begin)], [begin - 1, begin + many])
        many, begin = longest_run(sieve)
        self.assertTrue(fits(sieve, begin) and fits(sieve, begin + many - 1))
        self.assertFalse(fits(sieve, begin - 1) or fits(sieve, begin + many))

    def test_runs_of_thirty_figures(self):
        lots = [tuple(range(1, 10)), (0, 1, 2, 3, 4), (0, 3, 4, 5), (2, 3, 4, 5), (3, 4)]
        bars = tuple(zip((1000000, 999999, 999997, 999991, 999989), lots))
        self.assertEqual(longest_run(Sieve(bars)), (2, 3))
        ends = tuple((modulus, (0, modulus - 1)) for modulus, _ in bars)
        sieve = Sieve(ends)
        self.assertEqual(longest_run(sieve), (2, sieve.whole - 1))


class RepeatedTest(unittest.TestCase):

    def test_lists_are_new_and_calls_repeat(self):
        calls = [(listed, (EXAMPLE, 0, 40)), (nearest_to, (EXAMPLE, 3)), (steps, (EXAMPLE,))]
        for function, arguments in calls:
            first = function(*arguments)
            kept = list(first)
            first.append(None)
            self.assertEqual(function(*arguments), kept)
        for function in (longest_gap, longest_run):
            self.assertEqual(function(EXAMPLE), function(EXAMPLE))

    def test_the_sieve_stays_as_it_was(self):
        bars = ((4, (1, 2)), (6, (1, 4)))
        sieve = Sieve(bars)
        for function, arguments in [
                (count, (-5, 5)), (listed, (-5, 5)), (numbered, (0, 7)), (next_one, (3,)), (last_one, (3,)),
                (nearest_to, (3,)), (steps, ()), (longest_gap, ()), (longest_run, ())]:
            self.assertEqual(function(sieve, *arguments), function(sieve, *arguments))
            self.assertEqual((sieve.bars, sieve.whole, sieve.classes), (bars, 12, (1, 10)))


if __name__ == "__main__":
    unittest.main()
