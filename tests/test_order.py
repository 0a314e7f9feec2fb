"""[50], [51]: how cuts change their order."""

import itertools
import random
import unittest

from tailswap.errors import NoAt, NoRow
from tailswap.order import exchanged, parts, rising
from tests.plain import FRAMES, cuts_of, plain_effect, plain_exchanged, plainly_row, rows_of, some_rows, spoilt
from tests.refusals import NO_NUMBERS, RefusalCase

FRAME = (4, 3)
ROW = ((2, 0, 1), (0, 1, 2), (1, 0, 3))
NO_ROWS = [
    None, list(ROW), ((3, 0, 1),), ((0, 0, 4),), ((0, 1, 0),), ((0, 1, 1),), ((-1, 0, 1),), ((False, 0, 1),),
    ((0, 0, True),), ([0, 0, 1],), ((0, 0, 1), (0, 0, 1), None), "", True, 0, {}, (0, 0, 1),
]


def falling_at(row):
    """Tell the numbers at which a cut has a greater place than the next one."""
    return [at for at in range(len(row) - 1) if row[at][0] > row[at + 1][0]]


def risen_whichever_first(row, chooser):
    while falling_at(row):
        row = plain_exchanged(row, chooser.choice(falling_at(row)))
    return row


class ExchangedTest(RefusalCase):
    def test_a_lesser_place_ahead(self):
        self.assertEqual(exchanged((4, 3), ((0, 0, 1), (1, 1, 2)), 0), ((1, 0, 2), (0, 0, 1)))
        self.assertEqual(exchanged((4, 3), ((0, 0, 1), (2, 0, 1)), 0), ((2, 0, 1), (0, 0, 1)))
        self.assertEqual(exchanged((4, 3), ((0, 0, 1), (1, 2, 3)), 0), ((1, 2, 3), (0, 0, 1)))
        # Ribbon 0 is called 2, and the lesser of 2 and 1 is told first.
        self.assertEqual(exchanged((4, 3), ((0, 0, 2), (1, 0, 1)), 0), ((1, 1, 2), (0, 0, 2)))

    def test_a_greater_place_ahead(self):
        self.assertEqual(exchanged((4, 3), ((1, 1, 2), (0, 0, 1)), 0), ((0, 0, 1), (1, 0, 2)))
        self.assertEqual(exchanged((4, 3), ((2, 0, 1), (0, 0, 1)), 0), ((0, 0, 1), (2, 0, 1)))
        self.assertEqual(exchanged((4, 3), ((1, 2, 3), (0, 0, 1)), 0), ((0, 0, 1), (1, 2, 3)))
        self.assertEqual(exchanged((4, 3), ((1, 0, 1), (0, 0, 2)), 0), ((0, 0, 2), (1, 1, 2)))

    def test_one_place(self):
        self.assertEqual(exchanged((4, 3), ((1, 0, 1), (1, 0, 1)), 0), ((1, 0, 1), (1, 0, 1)))
        self.assertEqual(exchanged((4, 3), ((1, 0, 1), (1, 2, 3)), 0), ((1, 2, 3), (1, 0, 1)))
        self.assertEqual(exchanged((4, 3), ((1, 0, 1), (1, 1, 2)), 0), ((1, 1, 2), (1, 0, 2)))
        self.assertEqual(exchanged((4, 3), ((1, 1, 3), (1, 1, 2)), 0), ((1, 1, 2), (1, 2, 3)))

    def test_all_others_stay(self):
        self.assertEqual(exchanged(FRAME, ROW, 0), ((0, 1, 2), (2, 0, 2), (1, 0, 3)))
        self.assertEqual(exchanged(FRAME, ROW, 1), ((2, 0, 1), (1, 0, 3), (0, 1, 2)))

    def test_by_the_point_s_words_for_all_two_cuts(self):
        for frame in [(2, 3), (3, 2), (4, 2), (5, 2)]:
            for row in rows_of(frame, 2):
                self.assertEqual(repr(exchanged(frame, row, 0)), repr(plain_exchanged(row, 0)))

    def test_at_each_number_and_the_effect_stays(self):
        for frame in FRAMES:
            for row in some_rows(frame, (2, 3, 7, 20)):
                for at in range(len(row) - 1):
                    told = exchanged(frame, row, at)
                    self.assertEqual(repr(told), repr(plain_exchanged(row, at)))
                    self.assertTrue(plainly_row(frame, told))
                    self.assertEqual(plain_effect(frame, told), plain_effect(frame, row))

    def test_twice_at_one_number_is_nothing_thrice_of_one_place_with_just_one_in_common(self):
        for frame in [(2, 2), (3, 2), (4, 2), (5, 2)]:
            for row in rows_of(frame, 2):
                first, second = row
                common = len({*first[1:]} & {*second[1:]})
                times = 3 if first[0] == second[0] and common == 1 else 2
                told = row
                for played in range(1, times + 1):
                    told = exchanged(frame, told, 0)
                    self.assertTrue(told == row or played < times)
                if times == 3:
                    self.assertNotEqual(exchanged(frame, exchanged(frame, row, 0), 0), row)

    def test_thrice_at_one_number_and_the_next_in_turn(self):
        for frame in [(2, 3), (3, 2), (4, 1), (3, 3)]:
            for row in rows_of(frame, 3):
                one = exchanged(frame, exchanged(frame, exchanged(frame, row, 0), 1), 0)
                other = exchanged(frame, exchanged(frame, exchanged(frame, row, 1), 0), 1)
                self.assertEqual(one, other)

    def test_a_row_of_more_than_sixty_cuts(self):
        row = ROW * 40
        for at in (0, 59, 60, 61, 118):
            self.assertEqual(exchanged(FRAME, row, at), plain_exchanged(row, at))

    def test_of_what_has_no_next_one(self):
        for thing in [*NO_NUMBERS, 2, 3, -2, 60]:
            self.refused(NoAt, exchanged, FRAME, ROW, thing)
        for thing in [0, 1, -1, True, None]:
            self.refused(NoAt, exchanged, FRAME, (), thing)
            self.refused(NoAt, exchanged, FRAME, ROW[:1], thing)
            self.refused(NoAt, exchanged, (1, 1), (), thing)

    def test_refusals_in_their_order(self):
        self.refused_without_frame(exchanged, ROW, 0)
        for thing in NO_ROWS:
            self.refused(NoRow, exchanged, FRAME, thing, 0)
            self.refused(NoRow, exchanged, FRAME, thing, -1)
        for thing in spoilt(ROW):
            if not plainly_row(FRAME, thing):
                self.refused(NoRow, exchanged, FRAME, thing, 9)


class RisingTest(RefusalCase):
    def test_known_rows(self):
        self.assertEqual(rising(FRAME, ()), ())
        self.assertEqual(rising(FRAME, ((1, 1, 2), (0, 0, 1))), ((0, 0, 1), (1, 0, 2)))
        self.assertEqual(rising(FRAME, ((0, 0, 1), (1, 1, 2))), ((0, 0, 1), (1, 1, 2)))
        self.assertEqual(rising(FRAME, ((1, 1, 2), (1, 0, 1))), ((1, 1, 2), (1, 0, 1)))
        self.assertEqual(rising(FRAME, ((2, 0, 1), (1, 1, 2), (0, 2, 3))), ((0, 2, 3), (1, 1, 3), (2, 0, 3)))

    def test_whichever_are_exchanged_first(self):
        chooser = random.Random(51)
        for frame in FRAMES:
            for row in some_rows(frame, (0, 1, 2, 3, 7, 25)):
                told = rising(frame, row)
                for _ in range(3):
                    self.assertEqual(repr(told), repr(risen_whichever_first(row, chooser)))

    def test_of_sixty_cuts(self):
        chooser = random.Random(52)
        for frame in [(2, 12), (3, 4), (5, 12)]:
            for row in some_rows(frame, (60,)):
                self.assertEqual(rising(frame, row), risen_whichever_first(row, chooser))

    def test_each_order_of_exchanges_of_all_short_rows(self):
        for frame, length in [((2, 3), 5), ((3, 2), 4), ((3, 3), 3), ((2, 4), 4)]:
            for row in rows_of(frame, length):
                rows, ends = {row}, set()
                while rows:
                    ends |= {one for one in rows if not falling_at(one)}
                    rows = {plain_exchanged(one, at) for one in rows for at in falling_at(one)}
                self.assertEqual({rising(frame, row)}, ends)

    def test_it_rises_and_the_effect_stays(self):
        for frame in FRAMES:
            for row in some_rows(frame):
                told = rising(frame, row)
                self.assertTrue(plainly_row(frame, told))
                self.assertEqual([cut[0] for cut in told], sorted(cut[0] for cut in row))
                self.assertEqual(plain_effect(frame, told), plain_effect(frame, row))
                self.assertEqual(rising(frame, told), told)

    def test_a_row_of_thousands_of_cuts(self):
        row = ROW * 2000
        told = rising(FRAME, row)
        self.assertEqual([cut[0] for cut in told], [0] * 2000 + [1] * 2000 + [2] * 2000)
        self.assertEqual(plain_effect(FRAME, told), plain_effect(FRAME, row))

    def test_refusals_in_their_order(self):
        self.refused_without_frame(rising, ROW)
        for thing in NO_ROWS:
            self.refused(NoRow, rising, FRAME, thing)
        for thing in spoilt(ROW):
            if not plainly_row(FRAME, thing):
                self.refused(NoRow, rising, FRAME, thing)


def plain_parts(frame, one, other):
    """Tell the least (place, ribbon) at which the effects of two rows are unlike, by playing both out."""
    many, long = frame
    first, second = plain_effect(frame, one), plain_effect(frame, other)
    where = itertools.product(range(long), range(many))
    return next(((place, ribbon) for place, ribbon in where if first[place][ribbon] != second[place][ribbon]), None)


class PartsTest(RefusalCase):
    def test_known_rows(self):
        self.assertIs(parts(FRAME, (), ()), None)
        self.assertEqual(parts(FRAME, (), ((1, 2, 3),)), (1, 2))
        self.assertEqual(parts(FRAME, ((2, 0, 1),), ()), (2, 0))
        self.assertEqual(parts(FRAME, ((0, 0, 1),), ((1, 0, 1),)), (0, 0))
        self.assertEqual(parts(FRAME, ((1, 0, 1), (1, 1, 2)), ((1, 0, 1),)), (1, 1))
        self.assertEqual(parts(FRAME, ((2, 0, 3), (0, 1, 2)), ((0, 1, 2), (1, 0, 3))), (1, 0))
        self.assertIs(parts(FRAME, ((1, 0, 1), (1, 0, 1)), ()), None)

    def test_of_all_short_rows(self):
        for frame in [(2, 3), (3, 2)]:
            rows = [row for length in range(3) for row in rows_of(frame, length)]
            for one, other in itertools.product(rows, repeat=2):
                self.assertEqual(repr(parts(frame, one, other)), repr(plain_parts(frame, one, other)))

    def test_each_place_and_ribbon(self):
        for frame in FRAMES:
            many, long = frame
            for row in some_rows(frame, (0, 3, 7)):
                for cut in cuts_of(frame):
                    self.assertEqual(parts(frame, row, row + (cut,)), cut[:2])
                    self.assertEqual(parts(frame, row + (cut,), row), cut[:2])

    def test_of_exchanged_rows_there_are_none(self):
        for frame in FRAMES:
            for row in some_rows(frame, (2, 7)):
                self.assertIs(parts(frame, row, exchanged(frame, row, 0)), None)
                self.assertIs(parts(frame, rising(frame, row), row), None)

    def test_refusals_in_their_order(self):
        self.refused_without_frame(parts, ROW, ROW)
        for thing in NO_ROWS:
            self.refused(NoRow, parts, FRAME, thing, ROW)
            self.refused(NoRow, parts, FRAME, ROW, thing)
            self.refused(NoRow, parts, FRAME, thing, thing)


if __name__ == "__main__":
    unittest.main()
