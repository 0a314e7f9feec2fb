"""[52]: by which exchanges short rows come to one another."""

import itertools
import random
import unittest

from tailswap.errors import NoRow, NotShort
from tailswap.exchanges import leading, shows_leading
from tailswap.joints import shortest
from tests.plain import (
    FRAMES, cuts_of, effect_of_joints, layers, plain_effect, plain_exchanged, plain_fewest, plainly_row, rows_of,
    some_effects, spoilt, turning, whole,
)
from tests.refusals import RefusalCase

FRAME = (3, 2)
ROW = ((0, 0, 1), (1, 1, 2), (0, 1, 2))
OTHER = ((0, 1, 2), (1, 0, 1), (0, 0, 2))
UNLIKE = ((0, 0, 1), (1, 1, 2))
LONG = ((0, 0, 1), (0, 0, 1))


def short_rows(frame):
    """For each effect of a frame tell all rows that have it and as few cuts as may be."""
    many, long = frame
    told = {}
    for length in range((many - 1) * long + 1):
        for row in rows_of(frame, length):
            rows = told.setdefault(plain_effect(frame, row), [])
            if not rows or len(rows[0]) == length:
                rows.append(row)
    return told


def plainly_exchanged(row, numbers):
    """Tell what becomes of a row, None where there is a number of no cut that has a next one."""
    for at in numbers:
        if not whole(at, 0, len(row) - 2):
            return None
        row = plain_exchanged(row, at)
    return row


def scrambled(row, times, seed):
    """Tell a row that was exchanged so many times, wherever."""
    chooser = random.Random(seed)
    for _ in range(times if len(row) > 1 else 0):
        row = plain_exchanged(row, chooser.randrange(len(row) - 1))
    return row


def plainly_shown(frame, one, other, thing):
    """Tell by the point's words whether thing shows how two rows come to one another, or that they don't."""
    if type(thing) is not tuple or not thing:
        return False
    if len(thing) == 2 and thing[0] == "numbers" and type(thing[1]) is tuple:
        return plainly_exchanged(one, thing[1]) == other
    many, long = frame
    if len(thing) == 3 and thing[0] == "parts" and whole(thing[1], 0, long - 1) and whole(thing[2], 0, many - 1):
        first, second = plain_effect(frame, one), plain_effect(frame, other)
        return first[thing[1]][thing[2]] != second[thing[1]][thing[2]]
    return False


class LeadingTest(RefusalCase):
    def leads(self, frame, one, other):
        told = leading(frame, one, other)
        self.assertIs(type(told), tuple)
        self.assertEqual(len(told), 2)
        self.assertEqual(told[0], "numbers")
        self.assertIs(type(told[1]), tuple)
        self.assertEqual(repr(plainly_exchanged(one, told[1])), repr(other))
        self.assertIs(shows_leading(frame, one, other, told), True)
        if one == other:
            self.assertEqual(told, ("numbers", ()))

    def test_all_pairs_of_short_rows_of_small_frames(self):
        for frame in [(1, 1), (1, 3), (2, 1), (2, 3), (2, 4), (3, 1), (3, 2), (4, 1)]:
            for rows in short_rows(frame).values():
                for one, other in itertools.product(rows, repeat=2):
                    self.leads(frame, one, other)

    def test_from_and_to_each_short_row_of_five_ribbons(self):
        whole_round = (turning(5, [0, 3, 1, 4, 2]),)
        halves = (turning(5, [0, 3], [1, 4, 2]),)
        told = short_rows((5, 1))
        self.assertEqual(len(told[whole_round]), 125)
        for rows in (told[whole_round], told[halves]):
            for row in rows:
                self.leads((5, 1), rows[0], row)
                self.leads((5, 1), row, rows[-1])

    def test_scrambled_rows_of_each_frame(self):
        for frame in FRAMES:
            for effect in some_effects(frame, 2):
                row = shortest(frame, effect)
                self.leads(frame, row, row)
                self.leads(frame, scrambled(row, 200, 1), scrambled(row, 200, 2))

    def test_five_ribbons_and_twelve_places(self):
        row = shortest((5, 12), effect_of_joints(*[turning(5, [0, 3, 1, 4, 2])] * 12))
        self.assertEqual(len(row), 48)
        self.leads((5, 12), row, scrambled(row, 3000, 3))
        self.leads((5, 12), scrambled(row, 3000, 4), scrambled(row, 3000, 5))
        falling = scrambled(row, 3000, 4)
        self.leads((5, 12), falling, row)

    def test_of_alike_rows(self):
        self.assertEqual(leading(FRAME, (), ()), ("numbers", ()))
        self.assertEqual(leading(FRAME, ROW, ROW), ("numbers", ()))
        self.assertEqual(leading((1, 1), (), ()), ("numbers", ()))

    def test_two_rows_by_hand(self):
        self.assertIs(shows_leading((4, 1), ((0, 0, 1), (0, 2, 3)), ((0, 2, 3), (0, 0, 1)), ("numbers", (0,))), True)
        self.leads((4, 1), ((0, 0, 1), (0, 2, 3)), ((0, 2, 3), (0, 0, 1)))
        self.leads(FRAME, ((0, 0, 1), (1, 1, 2)), ((1, 0, 2), (0, 0, 1)))
        self.leads(FRAME, ((1, 0, 2), (0, 0, 1)), ((0, 0, 1), (1, 1, 2)))

    def test_of_unlike_effects(self):
        self.assertEqual(leading(FRAME, (), ((1, 1, 2),)), ("parts", 1, 1))
        self.assertEqual(leading(FRAME, ((0, 0, 1),), ((1, 0, 1),)), ("parts", 0, 0))
        self.assertEqual(leading(FRAME, ROW, UNLIKE), ("parts", 0, 1))
        self.assertEqual(leading((3, 3), ((2, 0, 1), (0, 0, 1)), ((0, 0, 1),)), ("parts", 2, 0))

    def test_all_pairs_of_unlike_effects_of_small_frames(self):
        for frame in [(2, 3), (3, 2)]:
            many, long = frame
            first = {effect: rows[0] for effect, rows in short_rows(frame).items()}
            for one, other in itertools.permutations(first, 2):
                where = itertools.product(range(long), range(many))
                least = next(at for at in where if one[at[0]][at[1]] != other[at[0]][at[1]])
                self.assertEqual(repr(leading(frame, first[one], first[other])), repr(("parts", *least)))

    def test_parts_of_large_frames(self):
        for frame in [(5, 12), (4, 9)]:
            for effect in some_effects(frame)[1:]:
                row = shortest(frame, effect)
                place, one, _ = row[-1]
                self.assertEqual(leading(frame, row, row[:-1]), ("parts", place, one))
                self.assertIs(shows_leading(frame, row, row[:-1], ("parts", place, one)), True)


class ShowsLeadingTest(RefusalCase):
    def test_other_numbers_that_lead_there_too(self):
        two = ((0, 0, 1), (0, 1, 2))
        for numbers in [(), (0, 0, 0), (0,) * 6, (0,) * 3000]:
            self.assertIs(shows_leading(FRAME, two, two, ("numbers", numbers)), True)
        apart = ((0, 0, 1), (1, 0, 1))
        for numbers in [(), (0, 0), (0,) * 400]:
            self.assertIs(shows_leading(FRAME, apart, apart, ("numbers", numbers)), True)
        told = leading(FRAME, ROW, OTHER)[1]
        self.assertIs(shows_leading(FRAME, ROW, OTHER, ("numbers", told)), True)
        self.assertIs(shows_leading(FRAME, ROW, OTHER, ("numbers", told + (0, 0, 0) * 2)), True)
        self.assertIs(shows_leading(FRAME, ROW, OTHER, ("numbers", (0, 0) + told)), True)
        self.assertIs(shows_leading(FRAME, ROW, OTHER, ("numbers", (0,) + told)), False)

    def test_numbers_that_lead_elsewhere(self):
        two = ((0, 0, 1), (0, 1, 2))
        for numbers in [(0,), (0, 0), (0,) * 4]:
            self.assertIs(shows_leading(FRAME, two, two, ("numbers", numbers)), False)
        for numbers in [(1,), (0, 0, 0, 1), (-1,), (2,), (9999999999999,), (True,), (False, 0, 0), (0, False, 0)]:
            self.assertIs(shows_leading(FRAME, two, two, ("numbers", numbers)), False)
        self.assertIs(shows_leading(FRAME, (), (), ("numbers", (0,))), False)
        self.assertIs(shows_leading(FRAME, UNLIKE[:1], UNLIKE[:1], ("numbers", (0,))), False)
        self.assertIs(shows_leading(FRAME, ROW, UNLIKE, ("numbers", ())), False)

    def test_all_numbers_up_to_four_and_one_beyond(self):
        for frame, one in [(FRAME, ROW), ((4, 1), ((0, 0, 1), (0, 1, 2), (0, 2, 3)))]:
            effect = plain_effect(frame, one)
            for other in short_rows(frame)[effect][::5]:
                for length in range(5):
                    for numbers in itertools.product(range(3), repeat=length):
                        shown = plainly_exchanged(one, numbers) == other
                        self.assertIs(shows_leading(frame, one, other, ("numbers", numbers)), shown)

    def test_each_place_and_ribbon(self):
        for frame in [(2, 3), (3, 2), (4, 2)]:
            effects = some_effects(frame, 5)
            for first, second in itertools.product(effects, repeat=2):
                one, other = shortest(frame, first), shortest(frame, second)
                for place, ribbon in itertools.product(range(-1, 5), repeat=2):
                    inside = 0 <= place < frame[1] and 0 <= ribbon < frame[0]
                    shown = inside and first[place][ribbon] != second[place][ribbon]
                    self.assertIs(shows_leading(frame, one, other, ("parts", place, ribbon)), shown)

    def test_of_anything(self):
        two = ((0, 0, 1), (0, 1, 2))
        pairs = [
            (two, two, ("numbers", (0, 0, 0))), (ROW, OTHER, leading(FRAME, ROW, OTHER)), ((), (), ("numbers", ())),
            (ROW, UNLIKE, ("parts", 0, 1)), ((), ((0, 0, 1),), ("parts", 0, 0)), (two, ROW, ("parts", 1, 1)),
        ]
        for one, other, shown in pairs:
            self.assertIs(plainly_shown(FRAME, one, other, shown), True)
            for thing in [shown, *spoilt(shown)]:
                self.assertIs(shows_leading(FRAME, one, other, thing), plainly_shown(FRAME, one, other, thing), thing)

    def test_other_words_and_lengths(self):
        for thing in [
            ("number", ()), ("Numbers", ()), ("numbers",), ("numbers", (), ()), ("numbers", []), ["numbers", ()],
            ("numbers", {}), ("numbers", ""), ("numbers", None), ("numbers", 0), ("cuts", ()), (), "numbers",
            {0: "numbers", 1: ()}, ((), "numbers"), (None, ()), (("numbers",), ()),
        ]:
            self.assertIs(shows_leading(FRAME, ROW, ROW, thing), False)
        self.assertIs(shows_leading(FRAME, (), ((0, 0, 1),), ("parts", 0, 1)), True)
        for thing in [
            ("parts", False, 1), ("parts", 0, True), ["parts", 0, 1], ("part", 0, 1), ("parts", 0), ("parts", (0, 1)),
            ("parts", 0, 1, 0), ("parts", 0, 2), ("parts", 0, -3), ("parts", -1, 0), ("parts", 2, 0), ("parts", 0, 3),
            ("parts", 0, None), ("parts", "0", "1"), ("parts", 9999999999999, 0), ("numbers", 0, 1),
        ]:
            self.assertIs(shows_leading(FRAME, (), ((0, 0, 1),), thing), False)


class RefusalsTest(RefusalCase):
    def test_of_no_frame(self):
        self.refused_without_frame(leading, ROW, ROW)
        self.refused_without_frame(shows_leading, ROW, ROW, ("numbers", ()))

    def test_of_no_row(self):
        for thing in [*spoilt(ROW[:2])]:
            if not plainly_row(FRAME, thing):
                for pair in [(thing, ROW), (ROW, thing), (thing, thing), (thing, LONG), (LONG, thing)]:
                    self.refused(NoRow, leading, FRAME, *pair)
                    self.refused(NoRow, shows_leading, FRAME, *pair, None)

    def test_of_rows_that_are_not_short(self):
        for pair in [(LONG, ROW), (ROW, LONG), (LONG, LONG), (LONG, ()), ((), LONG), (ROW + LONG, ROW)]:
            self.refused(NotShort, leading, FRAME, *pair)
            for thing in [None, ("numbers", ()), ("parts", 0, 0)]:
                self.refused(NotShort, shows_leading, FRAME, *pair, thing)

    def test_just_short_rows_are_taken(self):
        least = {}
        for cuts, layer in enumerate(layers(FRAME, 4)):
            for effect in layer:
                least.setdefault(effect, cuts)
        for length in range(5):
            for row in rows_of(FRAME, length)[::7]:
                if least[plain_effect(FRAME, row)] == length:
                    self.assertEqual(leading(FRAME, row, row), ("numbers", ()))
                else:
                    self.refused(NotShort, leading, FRAME, row, row)

    def test_of_rows_longer_than_sixty(self):
        for length in (60, 61, 80):
            row = (cuts_of((5, 12)) * 2)[:length]
            self.assertLess(plain_fewest(plain_effect((5, 12), row)), length)
            self.refused(NotShort, leading, (5, 12), tuple(row), ())


if __name__ == "__main__":
    unittest.main()
