import unittest
from itertools import product

from restlots.desks import Desk
from restlots.errors import BadBars, BadPlace, BadRests, RestError, TooGreat, TooMany
from restlots.lots import narrowed, without
from restlots.sieves import Sieve
from samples import ABOVE, BELOW, LIMIT, NO_INTEGERS, NO_NUMBERS, full, greatest_sieve

BAR = (4, (1, 2))
NEXT = (6, (1, 4))

# A name of a method, and what is passed to it.
STEPS = [("put", BAR), ("put", (6, ())), ("take", 0), ("take", 1), ("narrow", 0, (1, 3)), ("undo",), ("redo",),
         ("put", (4, (2, 1)))]


class PlainDesk:
    """All sieves that stood, as rows of bars, and which of them stands now."""

    def __init__(self):
        self.rows = [()]
        self.at = 0

    def then(self, bars):
        self.rows = self.rows[:self.at + 1] + [bars]
        self.at += 1

    def bars(self):
        return self.rows[self.at]

    def put(self, bar):
        if list(bar[1]) != sorted(bar[1]):
            return BadBars
        self.then(self.bars() + (bar,))
        return len(Sieve(self.bars()).classes)

    def take(self, index):
        bars = self.bars()
        if index >= len(bars):
            return BadPlace
        self.then(bars[:index] + bars[index + 1:])
        return bars[index]

    def narrow(self, index, lot):
        bars = list(self.bars())
        if index >= len(bars):
            return BadPlace
        bars[index] = (bars[index][0], tuple(rest for rest in bars[index][1] if rest in lot))
        self.then(tuple(bars))
        return None

    def undo(self):
        self.at -= 1 if self.at > 0 else 0
        return None

    def redo(self):
        self.at += 1 if self.at + 1 < len(self.rows) else 0
        return None


def done(desk, step):
    """What a step returns, or the class of the error that it raises."""
    try:
        return getattr(desk, step[0])(*step[1:])
    except RestError as error:
        return error.__class__


def desk_of(bars):
    desk = Desk()
    for bar in bars:
        desk.put(bar)
    return desk


def history(desk):
    """All that can be seen of a desk: its sieve, its steps, and the sieves back to its first one and on again.

    It is read off a copy, so that the desk itself stays as it is.
    """
    other = desk.copy()
    back, ahead = [other.sieve.bars], []
    while other.undo():
        back.append(other.sieve.bars)
    while other.redo():
        ahead.append(other.sieve.bars)
    return (len(desk), desk.sieve.bars, back, ahead)


class DeskTest(unittest.TestCase):

    def assert_refused(self, desk, kind, *step):
        """Check that a step raises just this error, and that the desk stands as before."""
        before = history(desk)
        with self.assertRaises(kind) as caught:
            getattr(desk, step[0])(*step[1:])
        self.assertIs(caught.exception.__class__, kind, step)
        self.assertEqual(history(desk), before, step)
        return caught.exception

    def assert_stands(self, desk, bars, steps):
        self.assertEqual([desk.sieve, desk.sieve.bars, len(desk)], [Sieve(bars), bars, steps])

    def test_example(self):
        desk = Desk()
        told = [desk.put(BAR), desk.put(NEXT), desk.narrow(0, (1,)), desk.sieve.classes, desk.undo(), desk.take(0)]
        self.assertEqual(told, [2, 2, None, (1,), True, BAR])
        self.assertIs(desk.redo(), False)
        self.assert_stands(desk, (NEXT,), 3)

    def test_at_first(self):
        desk = Desk()
        self.assert_stands(desk, (), 0)
        self.assertIsInstance(desk.sieve, Sieve)
        self.assertIs(desk.undo(), False)
        self.assertIs(desk.redo(), False)
        self.assert_stands(desk, (), 0)

    def test_put(self):
        desk = Desk()
        self.assertEqual([desk.put((1, (0,))), desk.put((6, (1, 2, 5))), desk.put((4, (0, 3)))], [1, 3, 3])
        self.assertEqual([desk.put((3, ())), desk.put((3, ()))], [0, 0])
        self.assert_stands(desk, ((1, (0,)), (6, (1, 2, 5)), (4, (0, 3)), (3, ()), (3, ())), 5)

    def test_put_of_what_is_no_bar(self):
        values = NO_NUMBERS + [0, 1, [4, (1, 2)], (4,), (4, (1,), (2,)), (4, [1, 2]), (4, (2, 1)), (4, (1, 1))]
        values.extend([(4, (4,)), (4, (-1,)), (4, (True,)), (0, ()), (1000001, ()), (True, ()), ("4", ()), full(61)])
        values.extend([(BAR,), (BAR, BAR), (4, 1), (4, None), {4: (1, 2), 5: 6}])
        for bars in ((), (BAR, NEXT), (BAR,) * 6):
            for value in values:
                error = self.assert_refused(desk_of(bars), BadBars, "put", value)
                self.assertIsNone(error.index)

    def test_six_and_seven_bars(self):
        desk = desk_of((BAR,) * 5)
        self.assertEqual(desk.put(BAR), 2)
        self.assert_refused(desk, TooMany, "put", BAR)
        self.assert_refused(desk, TooMany, "put", (1, (0,)))
        desk.take(5)
        self.assertEqual(desk.put(NEXT), 2)
        self.assert_refused(desk, TooMany, "put", (6, ()))

    def test_too_great(self):
        desk = desk_of([(modulus, (1,)) for modulus in ABOVE[:5]])
        self.assert_refused(desk, TooGreat, "put", (ABOVE[5], (1,)))
        self.assert_refused(desk, TooGreat, "put", (ABOVE[5], ()))
        self.assertEqual(desk.put((BELOW[5], (1, 5))), 2)
        self.assertEqual(desk_of(greatest_sieve().bars).sieve, greatest_sieve())

    def test_too_many(self):
        desk = desk_of([(1009, tuple(range(40)))])
        self.assert_refused(desk, TooMany, "put", (2003, tuple(range(51))))
        self.assertEqual(desk.put((2003, tuple(range(50)))), 2000)
        self.assert_refused(desk, TooMany, "put", (7, (0, 1)))
        self.assertEqual(desk.put((7, ())), 0)
        self.assert_refused(desk, TooMany, "put", (7, (0, 1)))

    def test_which_error_of_put_comes_first(self):
        bars = [(modulus, tuple(range(10))) for modulus in ABOVE[:3]] + [(ABOVE[3], (1,)), (ABOVE[4], (2,))]
        desk = desk_of(bars)
        self.assert_refused(desk, TooGreat, "put", (ABOVE[5], (1, 2, 3)))
        self.assert_refused(desk, BadBars, "put", (ABOVE[5], (1, 2, 3, 3)))
        desk.put((1, (0,)))
        self.assert_refused(desk, TooMany, "put", (ABOVE[5], (1, 2, 3)))
        self.assert_refused(desk, BadBars, "put", (ABOVE[5], (1, 2, 3, 3)))

    def test_take(self):
        desk = desk_of((BAR, NEXT, BAR, (5, ())))
        self.assertEqual(desk.take(1), NEXT)
        self.assert_stands(desk, (BAR, BAR, (5, ())), 5)
        self.assertEqual([desk.take(2), desk.take(0), desk.take(0)], [(5, ()), BAR, BAR])
        self.assert_stands(desk, (), 8)

    def test_places(self):
        for bars in ((), (BAR,), (BAR, NEXT)):
            for value in NO_INTEGERS + [-1, len(bars), 6, LIMIT, -LIMIT]:
                self.assert_refused(desk_of(bars), BadPlace, "take", value)
                self.assert_refused(desk_of(bars), BadPlace, "narrow", value, (1,))
                self.assert_refused(desk_of(bars), BadPlace, "narrow", value, None)

    def test_narrow(self):
        desk = desk_of((BAR, NEXT))
        self.assertIsNone(desk.narrow(1, (0, 4, 5)))
        self.assert_stands(desk, (BAR, (6, (4,))), 3)
        self.assertIsNone(desk.narrow(0, ()))
        self.assert_stands(desk, ((4, ()), (6, (4,))), 4)
        # A step that leaves all rests is a step, too.
        self.assertIsNone(desk.narrow(1, (0, 1, 2, 3, 4, 5)))
        self.assert_stands(desk, ((4, ()), (6, (4,))), 5)

    def test_lots_of_narrow(self):
        values = NO_NUMBERS + [0, 1, [1], (1, 1), (2, 1), (4,), (-1,), (True,), (1, "2"), ((1,),), {1: 2}]
        for value in values:
            # These two are lots by 4.
            if value not in [(), (3,)]:
                self.assert_refused(desk_of((BAR, NEXT)), BadRests, "narrow", 0, value)
        self.assert_refused(desk_of(((100, (1,)),)), BadRests, "narrow", 0, tuple(range(61)))
        self.assertIsNone(desk_of(((100, (1,)),)).narrow(0, tuple(range(60))))

    def test_undo_and_redo(self):
        desk = desk_of((BAR, NEXT))
        desk.narrow(0, (1,))
        desk.take(1)
        rows = [(), (BAR,), (BAR, NEXT), ((4, (1,)), NEXT), ((4, (1,)),)]
        for steps in (3, 2, 1, 0):
            self.assertIs(desk.undo(), True)
            self.assert_stands(desk, rows[steps], steps)
        self.assertIs(desk.undo(), False)
        self.assert_stands(desk, (), 0)
        for steps in (1, 2, 3, 4):
            self.assertIs(desk.redo(), True)
            self.assert_stands(desk, rows[steps], steps)
        self.assertIs(desk.redo(), False)
        self.assert_stands(desk, rows[4], 4)

    def test_another_step_done_since(self):
        for step in (("put", NEXT), ("take", 0), ("narrow", 0, (2,)), ("narrow", 0, (1, 2))):
            desk = desk_of((BAR, NEXT, NEXT))
            self.assertEqual([desk.undo(), desk.undo()], [True, True])
            done(desk, step)
            self.assertIs(desk.redo(), False)
            self.assertEqual([desk.undo(), len(desk), desk.redo(), desk.redo()], [True, 1, True, False])

    def test_an_error_is_no_step(self):
        desk = desk_of((BAR, NEXT))
        desk.undo()
        for step in (("put", 0), ("take", 1), ("narrow", 0, (4,)), ("narrow", 1, ())):
            self.assertIn(done(desk, step), (BadBars, BadPlace, BadRests))
        self.assertIs(desk.redo(), True)
        self.assert_stands(desk, (BAR, NEXT), 2)

    def test_all_rows_of_steps(self):
        for row in product(STEPS, repeat=4):
            desk, plain = Desk(), PlainDesk()
            for step in (("put", BAR), ("put", NEXT)) + row:
                before = plain.at
                expected = done(plain, step)
                if step[0] in ("undo", "redo"):
                    expected = plain.at != before
                self.assertEqual(done(desk, step), expected, row)
                self.assertEqual([desk.sieve.bars, len(desk)], [plain.bars(), plain.at], row)
            self.assertEqual(history(desk), (plain.at, plain.bars(), plain.rows[plain.at::-1], plain.rows[1:]), row)

    def test_as_without_and_narrowed(self):
        desk = desk_of((BAR, NEXT, (5, (0, 2, 4))))
        sieve = desk.sieve
        for index in range(3):
            self.assertEqual([desk.take(index), desk.sieve], [sieve.bars[index], without(sieve, index)])
            desk.undo()
            desk.narrow(index, (0, 1, 2))
            self.assertEqual(desk.sieve, narrowed(sieve, index, (0, 1, 2)))
            desk.undo()


class CopyTest(unittest.TestCase):

    def test_a_copy_stands_as_the_desk(self):
        desk = desk_of((BAR, NEXT, (5, (1,))))
        desk.undo()
        desk.undo()
        other = desk.copy()
        self.assertIsInstance(other, Desk)
        self.assertIsNot(other, desk)
        self.assertEqual([other.sieve.bars, len(other)], [(BAR,), 1])
        self.assertEqual([other.redo(), other.redo(), other.redo()], [True, True, False])
        self.assertEqual([other.sieve.bars, len(other)], [(BAR, NEXT, (5, (1,))), 3])
        self.assertEqual([desk.sieve.bars, len(desk)], [(BAR,), 1])
        self.assertEqual([desk.redo(), desk.sieve.bars], [True, (BAR, NEXT)])

    def test_both_are_led_on_apart(self):
        for ahead in product(STEPS[:1] + STEPS[2:3] + STEPS[4:7], repeat=2):
            for step in STEPS[:7]:
                desk = desk_of((BAR, NEXT))
                for other_step in ahead:
                    done(desk, other_step)
                other = desk.copy()
                before = history(desk)
                self.assertEqual(history(other), before)
                done(other, step)
                self.assertEqual(history(desk), before)
                other = desk.copy()
                done(desk, step)
                self.assertEqual(history(other), before)
                done(other, step)
                self.assertEqual(history(other), history(desk))

    def test_a_copy_of_a_copy(self):
        desk = desk_of((BAR,))
        other = desk.copy().copy()
        desk.undo()
        self.assertEqual([history(other), len(desk)], [(1, (BAR,), [(BAR,), ()], [(BAR,)]), 0])
        self.assertEqual(history(Desk().copy()), (0, (), [()], []))


class RepeatedTest(unittest.TestCase):

    def test_desks_have_nothing_in_common(self):
        one, other = Desk(), Desk()
        one.put(BAR)
        self.assertEqual([other.sieve.bars, len(other), other.undo()], [(), 0, False])

    def test_what_was_read_stays_as_it_was(self):
        desk = desk_of((BAR,))
        sieve = desk.sieve
        desk.put(NEXT)
        self.assertEqual([sieve.bars, sieve.classes], [(BAR,), (1, 2)])
        self.assertEqual([desk.sieve, desk.sieve, len(desk), len(desk)], [desk.sieve, desk.sieve, 2, 2])

    def test_the_property_cannot_be_set(self):
        self.assertIsInstance(Desk.sieve, property)
        with self.assertRaises(AttributeError):
            Desk().sieve = Sieve(())

    def test_equal_to_nothing_of_another_kind(self):
        for other in ((), [], None, 0, False, "", {}, Sieve(())):
            self.assertFalse(Desk() == other)
            self.assertFalse(Sieve(()) == Desk())

    def test_methods_stand_in_the_class_itself(self):
        for name in ("put", "take", "narrow", "undo", "redo", "copy", "__len__", "sieve"):
            self.assertIn(name, vars(Desk))


if __name__ == "__main__":
    unittest.main()
