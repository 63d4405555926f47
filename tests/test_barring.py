import copy
import unittest
from itertools import combinations, product
from math import gcd

from restlots.barring import freeing, paper, shows, smallest_barring
from restlots.errors import TooMany
from restlots.sieves import Sieve
from samples import LIMIT, NO_INTEGERS, full, greatest_sieve, mixed_sieves, plain_fits, refused, sample_sieves

EXAMPLE = Sieve(((4, (1, 2)), (6, (1, 4))))
ALL = Sieve(())
BARRED = Sieve(((2, (0,)), (4, (1, 3)), (3, (0,))))
# Any two of these bars leave a number.
THREE = Sieve(((4, (0, 1)), (4, (1, 2)), (4, (0, 2))))
EMPTY = Sieve(((5, (1, 2)), (3, ()), (4, (0, 1)), (7, ())))


def all_sieves():
    """Sieves that some number fits and that none does; some small, some with bars that are needed three at a time."""
    sieves = sample_sieves() + mixed_sieves() + [THREE, EMPTY]
    sieves.append(Sieve(((4, (1, 2)), (6, (0, 3)), (9, (0, 3, 6)), (8, (0, 7)))))
    sieves.append(Sieve(((5, (1, 2, 3)), (5, (0, 2, 3)), (5, (0, 1, 3)), (5, (0, 1, 2)))))
    sieves.append(Sieve(((6, (0, 1)), (10, (1, 2)), (15, (2, 6)), (6, (3, 4)), (2, (0,)))))
    return sieves


def barred_sieves():
    return [sieve for sieve in all_sieves() if sieve.classes == ()]


def none_fits(sieve, indexes):
    bars = [sieve.bars[index] for index in indexes]
    return not any(plain_fits(bars, number) for number in range(sieve.whole))


def plain_smallest(sieve, suits):
    """The smallest sets of indexes that suit, straight from the words."""
    every = range(len(sieve.bars))
    sizes = [[one for one in combinations(every, many) if suits(one)] for many in range(len(sieve.bars) + 1)]
    return next((found for found in sizes if found), [])


def plain_pairs(sieve, indexes, choice):
    left = dict(zip(indexes, choice))
    return [(one, two) for one, two in combinations(indexes, 2)
            if (left[one] - left[two]) % gcd(sieve.bars[one][0], sieve.bars[two][0]) != 0]


def plain_paper(sieve, indexes):
    choices = product(*[sieve.bars[index][1] for index in indexes])
    return ("clashes", (indexes, [(choice, plain_pairs(sieve, indexes, choice)[0]) for choice in choices]))


class ExampleTest(unittest.TestCase):

    def test_barred(self):
        told = [smallest_barring(BARRED), freeing(BARRED), paper(BARRED), shows(BARRED, paper(BARRED))]
        rows = [((0, 1), (0, 1)), ((0, 3), (0, 1))]
        self.assertEqual(told, [[(0, 1)], [(0,), (1,)], ("clashes", ((0, 1), rows)), True])

    def test_some_number_fits(self):
        told = [paper(EXAMPLE), shows(EXAMPLE, ("number", -2)), smallest_barring(EXAMPLE), freeing(EXAMPLE)]
        self.assertEqual(told, [("number", 1), True, [], [()]])


class SmallestTest(unittest.TestCase):

    def test_smallest_barring_against_the_words(self):
        for sieve in all_sieves():
            self.assertEqual(smallest_barring(sieve), plain_smallest(sieve, lambda one: none_fits(sieve, one)))

    def test_freeing_against_the_words(self):
        for sieve in all_sieves():
            every = range(len(sieve.bars))
            found = plain_smallest(sieve, lambda out: not none_fits(sieve, [one for one in every if one not in out]))
            self.assertEqual(freeing(sieve), found, sieve.bars)

    def test_some_number_fits(self):
        for sieve in (ALL, EXAMPLE, Sieve((full(4), full(6))), greatest_sieve()):
            self.assertEqual([smallest_barring(sieve), freeing(sieve)], [[], [()]])

    def test_empty_lots(self):
        self.assertEqual([smallest_barring(EMPTY), freeing(EMPTY)], [[(1,), (3,)], [(1, 3)]])
        self.assertEqual([smallest_barring(Sieve(((1, ()),))), freeing(Sieve(((1, ()),)))], [[(0,)], [(0,)]])

    def test_more_than_two_are_needed(self):
        self.assertEqual([smallest_barring(THREE), freeing(THREE)], [[(0, 1, 2)], [(0,), (1,), (2,)]])

    def test_as_few_as_can_be(self):
        # The first three bars let no number through either, but they are three.
        sieve = Sieve(THREE.bars + ((2, (1,)), (4, (0, 2))))
        self.assertEqual([smallest_barring(sieve), freeing(sieve)], [[(2, 3), (3, 4)], [(0, 3), (1, 3), (2, 4)]])

    def test_equal_bars_and_another_order(self):
        sieve = Sieve(((2, (0,)), (2, (1,)), (2, (0,)), (3, (1,)), (2, (1,))))
        self.assertEqual(smallest_barring(sieve), [(0, 1), (0, 4), (1, 2), (2, 4)])
        self.assertEqual(freeing(sieve), [(0, 2), (1, 4)])
        sieve = Sieve(BARRED.bars[::-1])
        self.assertEqual([smallest_barring(sieve), freeing(sieve)], [[(1, 2)], [(1,), (2,)]])


class PaperTest(unittest.TestCase):

    def test_of_a_number(self):
        for sieve in all_sieves() + [greatest_sieve()]:
            if sieve.classes != ():
                self.assertEqual(paper(sieve), ("number", sieve.classes[0]))
        self.assertEqual(paper(ALL), ("number", 0))

    def test_of_clashes_against_the_words(self):
        for sieve in barred_sieves():
            self.assertEqual(paper(sieve), plain_paper(sieve, smallest_barring(sieve)[0]))

    def test_each_paper_is_shown(self):
        for sieve in all_sieves() + [greatest_sieve()]:
            self.assertIs(shows(sieve, paper(sieve)), True)

    def test_kinds_of_its_parts(self):
        word, (indexes, rows) = paper(BARRED)
        self.assertEqual([type(part) for part in (word, indexes, rows)], [str, tuple, list])
        for choice, pair in rows:
            self.assertEqual((type(choice), type(pair)), (tuple, tuple))

    def test_of_an_empty_lot(self):
        self.assertEqual(paper(EMPTY), ("clashes", ((1,), [])))

    def test_the_least_pair(self):
        sieve = Sieve(((4, (0,)), (2, (0, 1)), (6, (2, 3)), (4, (1, 2))))
        self.assertEqual(paper(sieve), ("clashes", ((0, 3), [((0, 1), (0, 3)), ((0, 2), (0, 3))])))
        rows = [((0, 1, 0), (0, 1)), ((0, 1, 2), (0, 1)), ((0, 2, 0), (0, 1)), ((0, 2, 2), (0, 1)),
                ((1, 1, 0), (0, 2)), ((1, 1, 2), (0, 2)), ((1, 2, 0), (0, 1)), ((1, 2, 2), (0, 1))]
        self.assertEqual(paper(THREE), ("clashes", ((0, 1, 2), rows)))

    def test_three_hundred_and_three_hundred_and_one_rows(self):
        evens = tuple(range(0, 100, 2))
        odds = tuple(range(1, 100, 2))
        sieve = Sieve(((100, evens[:20]), (200, odds[:15])))
        self.assertEqual(len(paper(sieve)[1][1]), 300)
        self.assertEqual(paper(sieve), plain_paper(sieve, (0, 1)))
        self.assertIs(shows(sieve, paper(sieve)), True)
        sieve = Sieve(((100, evens[:43]), (20, odds[:7])))
        self.assertIs(refused(paper, sieve), TooMany)
        self.assertEqual([smallest_barring(sieve), freeing(sieve)], [[(0, 1)], [(0,), (1,)]])

    def test_the_least_set_counts_alone(self):
        evens = tuple(range(0, 100, 2))
        odds = tuple(range(1, 100, 2))
        # 301 rows for bars 0 and 1, but just 43 for bars 0 and 2.
        sieve = Sieve(((100, evens[:43]), (20, odds[:7]), (2, (1,))))
        self.assertEqual(smallest_barring(sieve), [(0, 1), (0, 2)])
        self.assertIs(refused(paper, sieve), TooMany)
        sieve = Sieve(((100, evens[:43]), (2, (1,)), (20, odds[:7])))
        self.assertEqual(len(paper(sieve)[1][1]), 43)
        sieve = Sieve(((100, evens[:43]), (20, odds[:7]), (3, ())))
        self.assertEqual(paper(sieve), ("clashes", ((2,), [])))

    def test_shows_has_no_such_limit(self):
        evens = tuple(range(0, 100, 2))
        odds = tuple(range(1, 100, 2))
        sieve = Sieve(((100, evens[:40]), (1000, odds[:50])))
        told = plain_paper(sieve, (0, 1))
        self.assertEqual(len(told[1][1]), 2000)
        self.assertIs(shows(sieve, told), True)
        del told[1][1][1999]
        self.assertIs(shows(sieve, told), False)


class NumberTest(unittest.TestCase):

    def test_against_the_words(self):
        for sieve in all_sieves():
            for number in range(-sieve.whole - 2, sieve.whole + 2):
                self.assertIs(shows(sieve, ("number", number)), plain_fits(sieve.bars, number))

    def test_however_great_and_below_zero(self):
        for times in (10 ** 29, 10 ** 30, 10 ** 60, -10 ** 29, -10 ** 30, -10 ** 60):
            told = [shows(EXAMPLE, ("number", 12 * times + rest)) for rest in range(12)]
            self.assertEqual(told, [rest in (1, 10) for rest in range(12)])
            self.assertIs(shows(ALL, ("number", times)), True)
            self.assertIs(shows(BARRED, ("number", times)), False)

    def test_of_another_kind(self):
        for sieve in (ALL, EXAMPLE, BARRED):
            for value in NO_INTEGERS:
                self.assertIs(shows(sieve, ("number", value)), False)


class ClashesTest(unittest.TestCase):

    def assert_not(self, sieve, told):
        self.assertIs(shows(sieve, ("clashes", told)), False, told)

    def test_other_sets_and_other_pairs(self):
        rows = [((0, 1, 0), (0, 1)), ((0, 3, 0), (0, 1))]
        self.assertIs(shows(BARRED, ("clashes", ((0, 1, 2), rows))), True)
        sieve = Sieve(((2, (0,)), (2, (1,)), (2, (0,))))
        for pair in ((0, 1), (1, 2)):
            self.assertIs(shows(sieve, ("clashes", ((0, 1, 2), [((0, 1, 0), pair)]))), True)
        for pair in ((0, 2), (1, 0), (2, 1), (0, 0), (1, 1), (0, 3), (-1, 1), (0,), (0, 1, 2), ()):
            self.assert_not(sieve, ((0, 1, 2), [((0, 1, 0), pair)]))

    def test_a_set_of_which_some_choice_does_not_clash(self):
        self.assert_not(BARRED, ((0, 2), [((0, 0), (0, 1))]))
        self.assert_not(BARRED, ((0, 2), [((0, 0), (0, 2))]))
        self.assert_not(BARRED, ((0,), [((0,), (0, 1))]))
        self.assert_not(BARRED, ((), [((), (0, 1))]))
        for sieve in (BARRED, EXAMPLE, ALL, EMPTY):
            self.assert_not(sieve, ((), []))
            self.assert_not(sieve, ((), [()]))
            self.assert_not(sieve, ((), [((), ())]))

    def test_sets_with_an_empty_lot(self):
        for indexes in ((1,), (3,), (0, 1), (1, 3), (0, 1, 2, 3)):
            self.assertIs(shows(EMPTY, ("clashes", (indexes, []))), True)
        for indexes in ((0,), (2,), (0, 2), (3, 1), (1, 1), (4,), (-1,), (1, 4)):
            self.assert_not(EMPTY, (indexes, []))
        self.assert_not(EMPTY, ((1,), [((), (1, 3))]))
        self.assert_not(EMPTY, ((1,), ()))
        self.assert_not(EMPTY, ([1], []))
        self.assert_not(EMPTY, ((True,), []))

    def test_pairs_of_other_bars(self):
        sieve = Sieve(((2, (0,)), (3, (0,)), (2, (1,)), (2, (1,))))
        self.assertIs(shows(sieve, ("clashes", ((0, 2), [((0, 1), (0, 2))]))), True)
        # Counted within the set, and a bar that is not of the set.
        self.assert_not(sieve, ((0, 2), [((0, 1), (0, 1))]))
        self.assert_not(sieve, ((0, 2), [((0, 1), (0, 3))]))

    def test_rows_left_out_doubled_and_out_of_order(self):
        for sieve in (BARRED, THREE):
            _, (indexes, rows) = paper(sieve)
            for place in range(len(rows)):
                self.assert_not(sieve, (indexes, rows[:place] + rows[place + 1:]))
                self.assert_not(sieve, (indexes, rows[:place + 1] + rows[place:]))
                if place > 0:
                    doubled = rows[:place] + [rows[place - 1]] + rows[place + 1:]
                    swapped = rows[:place - 1] + [rows[place], rows[place - 1]] + rows[place + 1:]
                    self.assert_not(sieve, (indexes, doubled))
                    self.assert_not(sieve, (indexes, swapped))
            self.assert_not(sieve, (indexes, rows[::-1]))
            self.assert_not(sieve, (indexes, []))

    def test_each_pair_changed(self):
        _, (indexes, rows) = paper(THREE)
        for place, (choice, _) in enumerate(rows):
            for pair in [(one, two) for one in range(-1, 4) for two in range(-1, 4)]:
                changed = rows[:place] + [(choice, pair)] + rows[place + 1:]
                clash = pair in plain_pairs(THREE, indexes, choice)
                self.assertIs(shows(THREE, ("clashes", (indexes, changed))), clash, (choice, pair))

    def test_wrong_indexes(self):
        rows = [((0, 1), (0, 1)), ((0, 3), (0, 1))]
        self.assertIs(shows(BARRED, ("clashes", ((0, 1), rows))), True)
        wrong = [[0, 1], (1, 0), (0, 0, 1), (0, 1, 1), (0, 1, 3), (-1, 0, 1), (0, "1"), (0, None), (0, [1]), (False, 1)]
        wrong.extend([(0, True), (False, True), (0, (1,)), {0: 1}, "01", 0, None, True, {}, (0, LIMIT), (0,), (1,)])
        for indexes in wrong:
            self.assert_not(BARRED, (indexes, rows))

    def test_an_index_twice(self):
        rows = [((0, 0, 1), (0, 1)), ((0, 0, 3), (0, 1))]
        self.assert_not(BARRED, ((0, 0, 1), rows))
        rows = [((1, 0), (0, 1)), ((3, 0), (0, 1))]
        self.assert_not(BARRED, ((1, 0), rows))

    def test_wrong_rows(self):
        rows = [((0, 1), (0, 1)), ((0, 3), (0, 1))]
        for value in [tuple(rows), {0: rows}, {}, None, True, 0, 2, "ab", (), "", [rows], [rows, rows]]:
            self.assert_not(BARRED, ((0, 1), value))
        wrong = [[(0, 1), (0, 1)], ([0, 1], (0, 1)), ((0, 1), [0, 1]), ((0, 1),), ((0, 1), (0, 1), ())]
        wrong.extend([(), [], {}, {(0, 1): (0, 1)}, None, True, 1, "ab"])
        wrong.extend([((0, True), (0, 1)), ((False, 1), (0, 1)), ((0, 1), (False, True)), ((0, 1), (0, True))])
        wrong.extend([((0, 1), (1, 0)), ((0, 1), (0, 2)), ((0, 1), (1, 2)), ((0, 1), (1, 1)), ((0, 1), None)])
        wrong.extend([((0, 5), (0, 1)), ((2, 1), (0, 1)), ((1, 0), (0, 1)), ((0,), (0, 1)), ((0, 1, 0), (0, 1))])
        wrong.extend([({0: 0, 1: 1}, (0, 1)), ((0, 1), {0: 0, 1: 1}), ((0, 1), "01"), ("01", (0, 1)), (None, None)])
        wrong.extend([((0, "1"), (0, 1)), ((0, None), (0, 1)), ((0, [1]), (0, 1))])
        wrong.extend([((0, 1), (0, "1")), ((0, 1), (0, None)), ((0, 1), (0, [1]))])
        for row in wrong:
            self.assert_not(BARRED, ((0, 1), [row, rows[1]]))
        for row in wrong:
            self.assert_not(BARRED, ((0, 1), [rows[0], row]))

    def test_wrong_values(self):
        rows = [((0, 1), (0, 1)), ((0, 3), (0, 1))]
        values = NO_INTEGERS + [0, 1, -1, LIMIT, "number", "clashes", ("number",), ("clashes",), ("number", 1, 1)]
        values.extend([["number", 1], ["number", -2], {"number": 1}, ("Number", 1), ("", 1), (None, 1), (1, "number")])
        values.extend([(True, 1), (["number"], 1), (("number",), 1), ({}, 1), ("number", (1,))])
        values.extend([("clash", ((0, 1), rows)), ("number clashes", 1), (["clashes"], ((0, 1), rows))])
        values.extend([["clashes", ((0, 1), rows)], ("clashes", [(0, 1), rows]), ("clashes", (0, 1), rows)])
        values.extend([("clashes", ((0, 1), rows, ())), ("clashes", ((0, 1),)), ("number", ((0, 1), rows))])
        values.extend([("Clashes", ((0, 1), rows)), ("clashes", rows), ("clashes", None), ("clashes", 1)])
        values.extend([("clashes", ()), ("clashes", ((), ())), ("clashes", ((0, 1), None))])
        values.extend([((0, 1), rows), rows, ("clashes", {(0, 1): 1, 2: 3}), {"clashes": ((0, 1), rows), "number": 1}])
        for sieve in (BARRED, EXAMPLE, ALL, EMPTY):
            for value in values:
                self.assertIs(shows(sieve, value), False, value)

    def test_papers_of_other_sieves(self):
        self.assertIs(shows(EXAMPLE, paper(BARRED)), False)
        self.assertIs(shows(ALL, paper(BARRED)), False)
        self.assertIs(shows(BARRED, paper(EXAMPLE)), False)
        self.assertIs(shows(BARRED, paper(THREE)), False)
        self.assertIs(shows(Sieve(BARRED.bars[::-1]), paper(BARRED)), False)


class ThirtyFiguresTest(unittest.TestCase):

    def test_barred(self):
        moduli = (1000000, 999999, 999997, 999991, 999989, 500000)
        lots = ((3, 500007, 999999), (0, 1), (5, 6, 7, 8), (1,), (8, 9), (2, 6, 499998))
        sieve = Sieve(tuple(zip(moduli, lots)))
        self.assertGreater(sieve.whole, 999 * 10 ** 27)
        self.assertEqual([smallest_barring(sieve), freeing(sieve)], [[(0, 5)], [(0,), (5,)]])
        self.assertEqual(paper(sieve), plain_paper(sieve, (0, 5)))
        self.assertIs(shows(sieve, paper(sieve)), True)
        every = plain_paper(sieve, (0, 1, 2, 3, 4, 5))
        self.assertEqual(len(every[1][1]), 144)
        self.assertIs(shows(sieve, every), True)
        every[1][1][100] = (every[1][1][100][0], (1, 2))
        self.assertIs(shows(sieve, every), False)

    def test_two_thousand_classes(self):
        sieve = greatest_sieve()
        self.assertEqual([smallest_barring(sieve), freeing(sieve)], [[], [()]])
        for number in (sieve.classes[0], sieve.classes[1999], sieve.classes[7] - 10 ** 9 * sieve.whole):
            self.assertIs(shows(sieve, ("number", number)), True)
            self.assertIs(shows(sieve, ("number", number + 99991)), False)


class RepeatedTest(unittest.TestCase):

    def test_lists_are_new_and_calls_repeat(self):
        for sieve in (EXAMPLE, BARRED, THREE, EMPTY, ALL):
            for function in (smallest_barring, freeing):
                before = list(function(sieve))
                function(sieve).append(None)
                self.assertEqual(function(sieve), before)
        before = copy.deepcopy(paper(BARRED))
        paper(BARRED)[1][1].clear()
        self.assertEqual(paper(BARRED), before)

    def test_arguments_stay_as_they_were(self):
        told = paper(BARRED)
        before = copy.deepcopy(told)
        spoilt = ("clashes", ((0, 1), before[1][1][::-1]))
        for value in (told, spoilt):
            kept = copy.deepcopy(value)
            self.assertEqual(shows(BARRED, value), shows(BARRED, value))
            self.assertEqual(value, kept)
        self.assertEqual(BARRED.bars, ((2, (0,)), (4, (1, 3)), (3, (0,))))


if __name__ == "__main__":
    unittest.main()
