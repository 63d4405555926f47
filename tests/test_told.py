import unittest
from itertools import combinations, combinations_with_replacement

from restlots.errors import BadModuli, BadSeen, Nothing
from restlots.told import many_lots, sure_rests
from samples import LIMIT, NO_INTEGERS, NO_NUMBERS, all_rows, plain_fits, refused

SEEN = [(1, True), (3, False)]


def plain_rows(moduli, seen):
    """All rows of bars with these moduli with which all that was seen is so."""
    return [bars for bars in all_rows(moduli) if all(plain_fits(bars, number) is does for number, does in seen)]


def plain_sure(moduli, rows):
    """What sure_rests tells, from all rows."""
    lots = [[row[index][1] for row in rows] for index in range(len(moduli))]
    return [([rest for rest in range(modulus) if all(rest in lot for lot in lots[index])],
             [rest for rest in range(modulus) if not any(rest in lot for lot in lots[index])])
            for index, modulus in enumerate(moduli)]


def sights(numbers):
    """All rows of one or two numbers that were seen, and some longer ones."""
    single = [(number, does) for number in numbers for does in (True, False)]
    found = [[]] + [list(seen) for many in (1, 2) for seen in combinations_with_replacement(single, many)]
    found.extend([list(seen) for seen in list(combinations(single, 4))[::11]])
    found.extend([list(seen) for seen in list(combinations(single, 6))[::53]])
    return found


class ToldTest(unittest.TestCase):

    def assert_told(self, moduli, seen):
        rows = plain_rows(moduli, seen)
        self.assertEqual(many_lots(moduli, seen), len(rows), (moduli, seen))
        if rows == []:
            self.assertIs(refused(sure_rests, moduli, seen), Nothing)
        else:
            self.assertEqual(sure_rests(moduli, seen), plain_sure(moduli, rows), (moduli, seen))

    def test_example(self):
        self.assertEqual([many_lots((2, 3), [(1, True), (0, False)]), many_lots((2, 3), SEEN)], [6, 4])
        self.assertEqual(sure_rests((2, 3), SEEN), [([1], []), ([1], [0])])
        self.assertIs(refused(sure_rests, (2,), SEEN), Nothing)

    def test_against_the_words(self):
        for moduli in ((1,), (2,), (4,), (1, 1), (2, 2), (2, 3), (4, 2), (1, 2, 3), (2, 2, 2), (1, 1, 2, 2)):
            for seen in sights((-5, 0, 1, 3, 4)):
                self.assert_told(moduli, seen)

    def test_more_moduli(self):
        for moduli in ((3, 4), (4, 4), (5, 3), (2, 3, 2), (4, 1, 2, 2), (3, 3, 3)):
            for seen in sights((-1, 2, 6, 7))[::3]:
                self.assert_told(moduli, seen)

    def test_many_with_false(self):
        for moduli in ((2, 3), (3, 4), (2, 2, 4)):
            for begin in range(5):
                seen = [(begin + 5 * many, False) for many in range(8)]
                self.assert_told(moduli, seen)
                self.assert_told(moduli, [(begin + 1, True)] + seen)
                self.assert_told(moduli, seen[:4] + [(begin + 3, True)] + seen[4:])

    def test_nothing_was_seen(self):
        for seen in ([], ()):
            self.assertEqual(many_lots((2, 3), seen), 2 ** 5)
            self.assertEqual(sure_rests((2, 3), seen), [([], []), ([], [])])

    def test_no_such_rows(self):
        for seen in ([(1, True), (7, False)], [(7, False), (1, True)], [(1, False), (3, True), (4, True)]):
            self.assertEqual(many_lots((2, 3), seen), 0)
            self.assertIs(refused(sure_rests, (2, 3), seen), Nothing)
        self.assertEqual(many_lots((1,), [(0, True), (1, False)]), 0)

    def test_lists_and_tuples(self):
        for seen in sights((0, 1, 3))[::2]:
            self.assertEqual(many_lots((2, 3), tuple(seen)), many_lots((2, 3), seen))
            self.assertIs(refused(sure_rests, (2, 3), tuple(seen)), refused(sure_rests, (2, 3), seen))
        self.assertEqual(sure_rests((2, 3), tuple(SEEN)), sure_rests((2, 3), SEEN))

    def test_greatest_moduli(self):
        thirty = (30, 30, 30, 30)
        self.assertEqual(many_lots(thirty, []), 2 ** 120)
        self.assertEqual(many_lots(thirty, [(7, False)]), 2 ** 120 - 2 ** 116)
        self.assertEqual(many_lots(thirty, [(7, True)]), 2 ** 116)
        self.assertEqual(many_lots((29, 30), [(number, True) for number in range(20)]), 2 ** 19)
        # The lots lack a number's rests one by one: of unlike numbers these are unlike.
        seen = [(number, False) for number in range(8)]
        self.assertEqual(many_lots(thirty, seen), 15 ** 8 * 2 ** 88)
        self.assertEqual(many_lots((30,), seen), 2 ** 22)
        self.assertEqual(sure_rests((30,), seen), [([], list(range(8)))])
        self.assertEqual(sure_rests(thirty, seen), [([], [])] * 4)

    def test_twenty_seen(self):
        seen = [(number, number % 5 != 0) for number in range(20)]
        # Either the lot by 5 lacks 0, or the one by 30 lacks 0, 5, 10 and 15.
        self.assertEqual(many_lots((30, 5), seen), 2 ** 14 + 2 ** 10)
        self.assertEqual(sure_rests((30, 5), seen), [([one for one in range(20) if one % 5], []), ([1, 2, 3, 4], [])])
        seen[0] = (50, True)
        held = [one for one in range(21) if one % 5 or one == 20]
        self.assertEqual(sure_rests((30, 5), seen), [(held, [5, 10, 15]), ([0, 1, 2, 3, 4], [])])
        self.assertEqual(many_lots((30, 5), seen), 2 ** 10)
        seen[0] = (40, True)
        self.assertIs(refused(sure_rests, (30, 5), seen), Nothing)

    def test_numbers_below_0_and_of_thirty_figures(self):
        for number in (-LIMIT, -31, -1, LIMIT):
            rests = (number % 7, number % 30)
            self.assertEqual(sure_rests((7, 30), [(number, True)]), [([rests[0]], []), ([rests[1]], [])])
            self.assertEqual(many_lots((7, 30), [(number, False)]), 2 ** 37 - 2 ** 35)
            self.assertEqual(sure_rests((7,), [(number, False)]), [([], [rests[0]])])


class BadModuliTest(unittest.TestCase):

    def assert_bad(self, moduli, index, seen=()):
        for function in (many_lots, sure_rests):
            with self.assertRaises(BadModuli) as caught:
                function(moduli, seen)
            self.assertEqual(caught.exception.index, index, moduli)

    def test_no_rows_of_moduli(self):
        for value in NO_NUMBERS + [0, 1, 4, [2], [2, 3], {2: 3}, "23", (1,) * 5, (0,) * 5, (2, 3, 4, 5, 6)]:
            if not isinstance(value, tuple) or not 1 <= len(value) <= 4:
                self.assert_bad(value, None)

    def test_one_to_four(self):
        for many in range(1, 5):
            self.assertEqual(many_lots((2,) * many, []), 4 ** many)
        self.assert_bad((), None)
        self.assert_bad((2,) * 5, None)

    def test_moduli(self):
        self.assertEqual([many_lots((1,), []), many_lots((30,), [])], [2, 2 ** 30])
        for value in NO_INTEGERS + [0, 31, -1, 1000, LIMIT]:
            self.assert_bad((value,), 0)
            self.assert_bad((value, 2, value), 0)
            self.assert_bad((2, value, 3), 1)
            self.assert_bad((1, 30, 2, value), 3)

    def test_ahead_of_what_was_seen(self):
        for seen in (None, [0], [(1, 1)], [(1, False)] * 9, [(0, True)] * 21):
            self.assert_bad((), None, seen)
            self.assert_bad((2, 31), 1, seen)


class BadSeenTest(unittest.TestCase):

    def assert_bad(self, seen, index):
        for function in (many_lots, sure_rests):
            with self.assertRaises(BadSeen) as caught:
                function((2, 3), seen)
            self.assertEqual(caught.exception.index, index, seen)

    def test_no_rows_of_what_was_seen(self):
        for value in [0, 1, True, False, None, "", "12", {}, {1: True}, LIMIT + 1]:
            self.assert_bad(value, None)

    def test_twenty_and_twenty_one(self):
        for kind in (list, tuple):
            self.assertEqual(many_lots((2, 3), kind([(1, True)] * 20)), 8)
            self.assert_bad(kind([(1, True)] * 21), None)
            self.assert_bad(kind([0] * 21), None)
            self.assert_bad(kind([(1, False)] * 21), None)

    def test_things_of_another_kind(self):
        for value in NO_NUMBERS + [0, 1, [1, True], (1,), (1, True, True), {1: True, 2: False}, "ab", ((1, True),)]:
            self.assert_bad([value], 0)
            self.assert_bad((value,), 0)
            self.assert_bad([(1, True), (2, False), value, (1, True), value], 2)

    def test_numbers(self):
        for value in NO_NUMBERS:
            self.assert_bad([(value, True)], 0)
            self.assert_bad([(1, True), (value, False)], 1)
        for value in (-LIMIT, LIMIT):
            self.assertEqual(many_lots((2,), [(value, True)]), 2)

    def test_true_and_false_alone(self):
        for value in [1, 0, None, "", "True", (), (True,), [True], {}, 2]:
            self.assert_bad([(1, value)], 0)
            self.assert_bad([(1, False)] * 8 + [(5, value)], 8)

    def test_the_eighth_and_the_ninth_with_false(self):
        self.assertEqual(many_lots((2, 3), [(0, False)] * 8), 24)
        self.assert_bad([(0, False)] * 9, 8)
        self.assert_bad([(0, False)] * 8 + [(1, True)] * 3 + [(0, False)] * 2, 11)
        self.assert_bad([(1, True), (0, False)] * 10, 17)
        self.assert_bad([(number, False) for number in range(1, 15)], 8)
        self.assertEqual(many_lots((2, 3), [(0, True)] * 12 + [(number, False) for number in range(1, 6)]), 1)
        self.assertEqual(many_lots((2, 3), [(1, True)] * 12 + [(0, False)] * 8), 6)

    def test_the_first_one_is_told(self):
        self.assert_bad([(0, False)] * 9 + [0], 8)
        self.assert_bad([(0, False)] * 8 + [0, (0, False)], 8)
        self.assert_bad([(0, False)] * 7 + [(1, True), None, (0, False), (0, False)], 8)
        self.assert_bad([(0, False)] * 5 + [None] + [(0, False)] * 6, 5)

    def test_ahead_of_nothing(self):
        self.assert_bad([(1, True), (1, False), None], 2)


class RepeatedTest(unittest.TestCase):

    def test_arguments_stay_as_they_were(self):
        seen = list(SEEN)
        first = sure_rests((2, 3), seen)
        self.assertEqual(many_lots((2, 3), seen), 4)
        self.assertEqual(seen, SEEN)
        first[0][0].append(0)
        first[1][1].clear()
        first.pop()
        self.assertEqual(sure_rests((2, 3), seen), [([1], []), ([1], [0])])
        self.assertEqual([many_lots((2, 3), seen), seen], [4, SEEN])

    def test_kinds_of_values(self):
        for moduli, count in (((2,), 1), ((2, 3, 4, 5), 4)):
            told = sure_rests(moduli, [(1, True)])
            self.assertEqual([len(told), [len(one) for one in told]], [count, [2] * count])
            for one in told:
                self.assertEqual([one.__class__, one[0].__class__, one[1].__class__], [tuple, list, list])


if __name__ == "__main__":
    unittest.main()
