"""What the document promises over the whole program: repeated calls, arguments, errors, names, and what holds."""

import importlib
import inspect
import unittest
from itertools import combinations, permutations

from restlots import barring, desks, errors, lots, reckoning, rows, sides, sieves, stretches, texts, told
from restlots.desks import Desk
from restlots.sieves import Sieve
from samples import ABOVE, BELOW, LIMIT, full, greatest_sieve, knotted_sieve, mixed_sieves, sample_sieves

BAR = (4, (1, 2))
EXAMPLE = ((4, (1, 2)), (6, (1, 4)))
BARRED = ((2, (0,)), (4, (1, 3)), (3, (0,)))

SIGNATURES = {
    "sieves": ["Sieve bars", "fits sieve number", "broken sieve number", "rests_of sieve number", "share sieve"],
    "stretches": [
        "count sieve begin end", "numbered sieve begin index", "next_one sieve number", "last_one sieve number",
        "listed sieve begin end", "nearest_to sieve number", "steps sieve", "longest_gap sieve", "longest_run sieve"],
    "rows": ["at_distance sieve step", "longest_row sieve step", "counts_by sieve modulus"],
    "lots": [
        "needless sieve", "smallest_kept sieve", "idle_rests sieve", "rests sieve modulus", "tight sieve",
        "without sieve index", "narrowed sieve index lot", "sure_rest sieve modulus", "greatest_sure sieve"],
    "barring": ["smallest_barring sieve", "freeing sieve", "paper sieve", "shows sieve value"],
    "sides": [
        "both one other", "as_one sieve", "within one other", "alike one other", "first_unlike one other",
        "distance one other"],
    "reckoning": [
        "sums one other modulus", "products one other modulus", "split one other number", "moved sieve by",
        "taken_from sieve number", "stretched sieve by", "shared sieve by"],
    "told": ["many_lots moduli seen", "sure_rests moduli seen"],
    "desks": ["Desk"],
    "texts": ["write sieve", "read text"]}

DESK_METHODS = ["put bar", "take index", "narrow index lot", "undo", "redo", "copy"]

# All questions of one sieve, with what is passed beside it.
QUESTIONS = [
    (sieves.fits, 13), (sieves.broken, 7), (sieves.rests_of, -1), (sieves.share,),
    (stretches.count, -LIMIT, LIMIT), (stretches.listed, -3, 40), (stretches.numbered, 5, 3), (stretches.next_one, 2),
    (stretches.last_one, 0), (stretches.nearest_to, 11), (stretches.steps,), (stretches.longest_gap,),
    (stretches.longest_run,), (rows.at_distance, 9), (rows.longest_row, 9), (rows.counts_by, 8), (lots.needless,),
    (lots.smallest_kept,), (lots.idle_rests,), (lots.tight,), (lots.without, 0), (lots.narrowed, 0, (1,)),
    (lots.rests, 12), (lots.sure_rest, 3), (lots.greatest_sure,), (barring.smallest_barring,), (barring.freeing,),
    (barring.paper,), (barring.shows, ("number", 1)), (barring.shows, ("clashes", ((0, 1), [((0, 1), (0, 1))]))),
    (sides.as_one,), (reckoning.moved, 5), (reckoning.taken_from, 7), (reckoning.stretched, 3), (reckoning.shared, 6),
    (texts.write,)]

# All questions of two sieves.
SIDES = [
    (sides.both,), (sides.within,), (sides.alike,), (sides.first_unlike,), (sides.distance,), (reckoning.sums, 12),
    (reckoning.products, 12), (reckoning.split, 11)]


def great_sieves():
    return [greatest_sieve(), knotted_sieve()]


def asked_sieves():
    """Sieves of many kinds, ordinary and great ones."""
    found = [Sieve(bars) for bars in ((), EXAMPLE, BARRED, (BAR, BAR), (full(2), (6, ())), ((4, (1, 2)), (2, (1,))))]
    return found + great_sieves()


def plain(value):
    """The same of plain values alone: sieves and errors are told by all that can be read off them."""
    if isinstance(value, Sieve):
        return ("Sieve", value.bars, value.whole, value.classes)
    if isinstance(value, (list, tuple)):
        return (value.__class__.__name__, [plain(one) for one in value])
    return value


def answer(function, *arguments):
    """What a call returns, or its error and the error's fields."""
    try:
        return function(*arguments)
    except errors.RestError as error:
        return (error.__class__.__name__, sorted(vars(error).items()))


def all_answers(sieve):
    """The answers to all questions of a sieve, alone and beside others."""
    found = [plain(answer(question[0], sieve, *question[1:])) for question in QUESTIONS]
    for other in (sieve, Sieve(((5, (0, 2)),)), Sieve(BARRED)):
        for function, *more in SIDES:
            found.append(plain(answer(function, sieve, other, *more)))
            found.append(plain(answer(function, other, sieve, *more)))
    return found


def spoil(value):
    """Change all lists in a value."""
    if isinstance(value, (list, tuple)):
        for one in value:
            spoil(one)
    if isinstance(value, list):
        value.append("spoilt")
        value.reverse()


class InterfaceTest(unittest.TestCase):

    def test_names_and_arguments(self):
        for name, listed in SIGNATURES.items():
            module = importlib.import_module("restlots." + name)
            for words in listed:
                made, *arguments = words.split()
                self.assertEqual(list(inspect.signature(getattr(module, made)).parameters), arguments, words)
                self.assertEqual(getattr(module, made).__module__, "restlots." + name)

    def test_methods_of_a_desk(self):
        for words in DESK_METHODS:
            made, *arguments = words.split()
            self.assertEqual(list(inspect.signature(getattr(Desk(), made)).parameters), arguments)

    def test_arguments_by_name(self):
        sieve = Sieve(bars=EXAMPLE)
        self.assertEqual(lots.narrowed(sieve=sieve, index=0, lot=(1, 3)).bars, ((4, (1,)), (6, (1, 4))))
        self.assertEqual(reckoning.split(one=sieve, other=sieve, number=11), 1)
        self.assertEqual(reckoning.stretched(sieve=sieve, by=2).classes, (2, 20))
        self.assertEqual(told.many_lots(moduli=(2, 3), seen=[(1, True), (0, False)]), 6)
        self.assertEqual(texts.read(text="bar 5").bars, ((5, ()),))
        desk = Desk()
        self.assertEqual([desk.put(bar=BAR), desk.narrow(index=0, lot=(1,)), desk.take(index=0)], [2, None, (4, (1,))])


class RepeatedTest(unittest.TestCase):

    def test_one_sieve_then_another_then_the_first_again(self):
        for one, other in permutations(asked_sieves(), 2):
            first = all_answers(one)
            all_answers(other)
            self.assertEqual(all_answers(one), first)

    def test_sieves_with_the_same_bars_answer_alike(self):
        for sieve in asked_sieves() + mixed_sieves():
            self.assertEqual(all_answers(Sieve(sieve.bars)), all_answers(sieve))

    def test_returned_lists_are_new(self):
        for sieve in asked_sieves():
            for function, *more in QUESTIONS:
                first = answer(function, sieve, *more)
                kept = plain(first)
                spoil(first)
                self.assertEqual(plain(answer(function, sieve, *more)), kept)
            for function, *more in SIDES:
                first = answer(function, sieve, sieve, *more)
                kept = plain(first)
                spoil(first)
                self.assertEqual(plain(answer(function, sieve, sieve, *more)), kept)

    def test_arguments_stay_as_they_were(self):
        other = Sieve(((5, (0, 2)),))
        for sieve in asked_sieves():
            kept = plain([sieve, other])
            for function, *more in QUESTIONS:
                before = plain(more)
                answer(function, sieve, *more)
                self.assertEqual([plain([sieve, other]), plain(more)], [kept, before], function)
            for function, *more in SIDES:
                answer(function, sieve, other, *more)
                answer(function, other, sieve, *more)
                self.assertEqual(plain([sieve, other]), kept, function)

    def test_kinds_of_truth(self):
        for sieve in asked_sieves():
            for value in (sieves.fits(sieve, 1), barring.shows(sieve, 0), sides.within(sieve, sieve),
                          sides.alike(sieve, sieve), Desk().undo(), Desk().redo()):
                self.assertIsInstance(value, bool)


class ErrorsTest(unittest.TestCase):

    def assert_raised(self, name, fields, function, *arguments):
        kind = getattr(errors, name)
        with self.assertRaises(kind) as caught:
            function(*arguments)
        self.assertIs(caught.exception.__class__, kind)
        self.assertEqual(kind.__bases__, (errors.RestError,))
        self.assertEqual(errors.RestError.__bases__, (ValueError,))
        self.assertEqual({field: getattr(caught.exception, field) for field in fields}, fields)

    def test_one_call_for_each(self):
        sieve, none = Sieve(EXAMPLE), Sieve(BARRED)
        self.assert_raised("BadNumber", {}, reckoning.moved, sieve, LIMIT + 1)
        self.assert_raised("BadStretch", {}, stretches.count, sieve, 2, 1)
        self.assert_raised("BadModulus", {}, reckoning.sums, sieve, sieve, 0)
        self.assert_raised("BadPlace", {}, Desk().take, 0)
        self.assert_raised("BadRests", {}, lots.narrowed, sieve, 0, (4,))
        self.assert_raised("TooGreat", {}, reckoning.stretched, Sieve(((1001, ()),)), 1000)
        self.assert_raised("TooMany", {}, reckoning.split, Sieve((BAR,) * 4), Sieve((BAR,) * 3), 0)
        self.assert_raised("Nothing", {}, lots.greatest_sure, none)
        self.assert_raised("BadBars", {"index": 1}, Sieve, (BAR, 0))
        self.assert_raised("BadBars", {"index": None}, Desk().put, 0)
        self.assert_raised("BadModuli", {"index": 2}, told.many_lots, (1, 30, 31), [])
        self.assert_raised("BadSeen", {"index": 0}, told.sure_rests, (1, 30), [(1, 1)])
        self.assert_raised("BadLine", {"line": 2, "word": 3}, texts.read, "bar 4\nbar 5 5")

    def test_true_and_false_are_no_integers(self):
        sieve = Sieve(EXAMPLE)
        for value in (True, False):
            for function in (sieves.fits, sieves.broken, sieves.rests_of, stretches.next_one, stretches.last_one,
                             stretches.nearest_to, rows.at_distance, rows.longest_row, reckoning.moved,
                             reckoning.taken_from, reckoning.stretched, reckoning.shared):
                self.assert_raised("BadNumber", {}, function, sieve, value)
            for function in (rows.counts_by, lots.rests, lots.sure_rest):
                self.assert_raised("BadModulus", {}, function, sieve, value)
            for function in (reckoning.sums, reckoning.products):
                self.assert_raised("BadModulus", {}, function, sieve, sieve, value)
            self.assert_raised("BadNumber", {}, reckoning.split, sieve, sieve, value)
            self.assert_raised("BadNumber", {}, stretches.numbered, sieve, 0, value)
            self.assert_raised("BadStretch", {}, stretches.count, sieve, value, 5)
            self.assert_raised("BadStretch", {}, stretches.listed, sieve, -5, value)
            self.assert_raised("BadPlace", {}, lots.without, sieve, value)
            self.assert_raised("BadPlace", {}, lots.narrowed, sieve, value, (1,))
            self.assert_raised("BadRests", {}, lots.narrowed, sieve, 0, (value,))
            self.assert_raised("BadBars", {"index": 0}, Sieve, ((2, (value,)),))
            self.assert_raised("BadModuli", {"index": 0}, told.many_lots, (value,), [])
            self.assert_raised("BadSeen", {"index": 0}, told.many_lots, (2,), [(value, True)])
            self.assertIs(barring.shows(Sieve(()), ("number", value)), False)


class AllSievesTest(unittest.TestCase):

    def assert_made(self, function, *arguments):
        """Check that what a function makes is a sieve as Sieve makes it of the same bars, or one of two errors."""
        try:
            made = function(*arguments)
        except (errors.TooGreat, errors.TooMany):
            return
        self.assertIsInstance(made, Sieve)
        self.assertEqual(plain(made), plain(Sieve(made.bars)))

    def test_limits_hold_of_all(self):
        for one in asked_sieves():
            for function, *more in [(lots.tight,), (sides.as_one,), (reckoning.moved, 3), (reckoning.taken_from, 3),
                                    (reckoning.stretched, 2), (reckoning.stretched, 1000), (reckoning.shared, 1000)]:
                self.assert_made(function, one, *more)
            for index in range(len(one.bars)):
                self.assert_made(lots.without, one, index)
                self.assert_made(lots.narrowed, one, index, ())
            for other in asked_sieves():
                self.assert_made(sides.both, one, other)

    def test_too_great_and_too_many(self):
        parts = [tuple((modulus, (1,)) for modulus in half) for half in (ABOVE[:3], ABOVE[3:])]
        one, other = [Sieve(part) for part in parts]
        text = "\n".join([texts.write(one), texts.write(other)])
        desk = Desk()
        for bar in parts[0] + parts[1][:2]:
            desk.put(bar)
        for function, *arguments in [(Sieve, parts[0] + parts[1]), (sides.both, one, other), (texts.read, text),
                                     (reckoning.split, one, other, 5), (desk.put, parts[1][2]),
                                     (reckoning.stretched, greatest_sieve(), 2), (sides.as_one, one)]:
            self.assertEqual(answer(function, *arguments), ("TooGreat", []))
        parts = [((1009, tuple(range(40))),), ((2003, tuple(range(51))),)]
        one, other = [Sieve(part) for part in parts]
        text = "\n".join([texts.write(one), texts.write(other)])
        desk = Desk()
        desk.put(parts[0][0])
        for function, *arguments in [(Sieve, parts[0] + parts[1]), (sides.both, one, other), (texts.read, text),
                                     (reckoning.split, one, other, 5), (desk.put, parts[1][0])]:
            self.assertEqual(answer(function, *arguments), ("TooMany", []))

    def test_equal_if_the_bars_are_however_they_were_made(self):
        sieve = Sieve(EXAMPLE)
        desk = Desk()
        for bar in EXAMPLE:
            desk.put(bar)
        made = [texts.read(texts.write(sieve)), reckoning.moved(sieve, 12), reckoning.stretched(sieve, 1), desk.sieve,
                sides.both(Sieve(EXAMPLE[:1]), Sieve(EXAMPLE[1:])), lots.without(Sieve(EXAMPLE + (BAR,)), 2)]
        for one in made:
            self.assertTrue(one == sieve)
            self.assertFalse(one != sieve)
        self.assertFalse(sides.as_one(sieve) == sieve)
        self.assertTrue(sides.alike(sides.as_one(sieve), sieve))

    def test_equal_to_nothing_of_another_kind(self):
        others = [0, 1, True, False, None, "", "bar 4 1 2", (), (BAR,), [BAR], [], {}, {4: (1, 2)}, Desk()]
        for thing in (Sieve(()), Sieve((BAR,)), Desk()):
            for other in others:
                if thing is not other:
                    self.assertFalse(thing == other)
                    self.assertFalse(other == thing)


class HoldsTest(unittest.TestCase):

    def all_sieves(self):
        return sample_sieves() + mixed_sieves() + great_sieves()

    def test_count_of_whole_numbers(self):
        for sieve in self.all_sieves():
            for begin in (0, -1, 17, -sieve.whole, 123456789 - sieve.whole // 2, -LIMIT, LIMIT - sieve.whole):
                self.assertEqual(stretches.count(sieve, begin, begin + sieve.whole), len(sieve.classes))

    def test_numbered_and_count_go_together(self):
        for sieve in self.all_sieves():
            if sieve.classes != ():
                for begin in (0, -7, 3, -LIMIT):
                    for index in (0, 1, 5, 1999):
                        number = stretches.numbered(sieve, begin, index)
                        # Of sieves with few numbers it may lie beyond the limit, where count does not reach.
                        if number <= LIMIT:
                            self.assertTrue(sieves.fits(sieve, number))
                            self.assertEqual(stretches.count(sieve, begin, number), index)

    def test_what_can_be_left_out(self):
        for sieve in self.all_sieves():
            for kept in lots.smallest_kept(sieve):
                self.assertIs(sides.alike(Sieve(tuple(sieve.bars[index] for index in kept)), sieve), True)
            self.assertIs(sides.alike(lots.tight(sieve), sieve), True)
            self.assertEqual(lots.tight(sieve).classes, sieve.classes)

    def test_what_fits_both_fits_one_and_other(self):
        for one, other in combinations(mixed_sieves(), 2):
            together = sides.both(one, other)
            self.assertEqual([sides.within(together, one), sides.within(together, other)], [True, True])
        for sieve in great_sieves():
            one, other = Sieve(sieve.bars[:4]), Sieve(sieve.bars[4:])
            self.assertEqual([sides.within(sieve, one), sides.within(sieve, other)], [True, True])
            for number in sides.both(one, other).classes:
                self.assertTrue(sieves.fits(one, number) and sieves.fits(other, number))

    def test_moved_by_whole_and_taken_from_twice(self):
        for sieve in self.all_sieves():
            self.assertEqual(reckoning.moved(sieve, sieve.whole), sieve)
            for number in (0, 5, -LIMIT):
                self.assertEqual(reckoning.taken_from(reckoning.taken_from(sieve, number), number), sieve)

    def test_all_rests_of_sums_are_sums_of_rests(self):
        for one in mixed_sieves() + great_sieves():
            for other in mixed_sieves()[::4] + great_sieves():
                for modulus in (1, 12, 28):
                    of_other = lots.rests(other, modulus)
                    added = {(first + rest) % modulus for first in lots.rests(one, modulus) for rest in of_other}
                    self.assertEqual(reckoning.sums(one, other, modulus), sorted(added))

    def test_a_sieve_is_within_each_one_that_has_some_of_its_bars(self):
        for sieve in self.all_sieves():
            for many in range(len(sieve.bars) + 1):
                for bars in combinations(sieve.bars, many):
                    self.assertIs(sides.within(sieve, Sieve(bars)), True)

    def test_of_sieves_closely_below_the_limit(self):
        sieve = Sieve(tuple((modulus, (0, modulus - 1)) for modulus in BELOW))
        self.assertEqual(len(sieve.classes), 64)
        self.assertEqual(stretches.count(sieve, -LIMIT, sieve.whole - LIMIT), 64)
        self.assertEqual(reckoning.moved(sieve, sieve.whole), sieve)
        self.assertEqual(reckoning.taken_from(sieve, -1), sieve)


if __name__ == "__main__":
    unittest.main()
