"""[42]: how many rows have an effect and just so many cuts, and how many effects take so many."""

import fractions
import itertools
import math
import unittest

from tailswap.counts import how_many, how_many_short, how_many_take
from tailswap.errors import NoCuts, NoEffect
from tests.plain import (
    FRAMES, effect_of_joints, effects_of, layers, plain_effect, plain_fewest, plain_joints, plain_rounds,
    plainly_effect, rows_of, some_effects, spoilt, turning,
)
from tests.refusals import EFFECT, FRAME, NO_EFFECTS, NO_NUMBERS, RefusalCase

NO_CUTS = [*NO_NUMBERS, 49, 50, -49]
SMALL = [(1, 1), (1, 3), (2, 1), (2, 4), (3, 1), (3, 2), (3, 3), (4, 1), (4, 2), (5, 1)]

# The characters of the exchanges of five: what belongs to each kind of rounds, and the factor of one exchange more.
KINDS = [(1, 1, 1, 1, 1), (1, 1, 1, 2), (1, 2, 2), (1, 1, 3), (2, 3), (1, 4), (5,)]
CHARACTERS = [
    (10, (1, 1, 1, 1, 1, 1, 1)), (5, (4, 2, 0, 1, -1, 0, -1)), (2, (5, 1, 1, -1, 1, -1, 0)),
    (0, (6, 0, -2, 0, 0, 0, 1)), (-2, (5, -1, 1, -1, -1, 1, 0)), (-5, (4, -2, 0, 1, 1, 0, -1)),
    (-10, (1, -1, 1, 1, -1, -1, 1)),
]


def by_characters(effect, cuts):
    """Tell how many rows have an effect of five ribbons and so many cuts, by no way that the program goes."""
    terms = {0: fractions.Fraction(1)}
    for joint in plain_joints(effect):
        kind = KINDS.index(tuple(sorted(map(len, plain_rounds(joint)))))
        longer = {}
        for one, number in terms.items():
            for factor, character in CHARACTERS:
                part = number * character[0] * character[kind] / 120
                longer[one + factor] = longer.get(one + factor, 0) + part
        terms = longer
    return sum(number * factor ** cuts for factor, number in terms.items())


class HowManyTest(RefusalCase):
    def test_known_numbers(self):
        one = ((1, 0),)
        self.assertEqual([how_many((2, 1), one, cuts) for cuts in range(5)], [0, 1, 0, 1, 0])
        self.assertEqual([how_many((2, 1), ((0, 1),), cuts) for cuts in range(5)], [1, 0, 1, 0, 1])
        # Each of two places is cut an odd number of times: both once in 2 ways, one thrice in 2 times 4.
        two = ((1, 0), (0, 1))
        self.assertEqual([how_many((2, 2), two, cuts) for cuts in range(5)], [0, 0, 2, 0, 8])
        self.assertEqual(how_many((3, 1), ((1, 2, 0),), 2), 3)
        self.assertEqual(how_many((1, 3), ((0,),) * 3, 0), 1)
        self.assertEqual(how_many((1, 3), ((0,),) * 3, 1), 0)
        self.assertEqual(how_many((1, 3), ((0,),) * 3, 48), 0)

    def test_against_all_rows_of_none_to_five_cuts(self):
        for frame in [(1, 1), (1, 2), (2, 1), (2, 3), (3, 1), (3, 2), (4, 1)]:
            for cuts in range(6):
                having = {}
                for row in rows_of(frame, cuts):
                    effect = plain_effect(frame, row)
                    having[effect] = having.get(effect, 0) + 1
                for effect in effects_of(frame):
                    self.assertEqual(repr(how_many(frame, effect, cuts)), repr(having.get(effect, 0)))

    def test_against_all_rows_layer_by_layer(self):
        for frame in SMALL:
            for cuts, layer in enumerate(layers(frame, 7)):
                for effect in effects_of(frame)[::3]:
                    self.assertEqual(how_many(frame, effect, cuts), layer.get(effect, (0, None))[0])

    def test_all_effects_together_have_all_rows(self):
        for frame in SMALL:
            many, long = frame
            for cuts in (0, 1, 9, 48):
                total = sum(how_many(frame, effect, cuts) for effect in effects_of(frame))
                self.assertEqual(total, (math.comb(many, 2) * long) ** cuts)

    def test_five_ribbons_twelve_places_and_48_cuts(self):
        for effect in some_effects((5, 12)):
            for cuts in (0, 1, 30, 47, 48):
                self.assertEqual(repr(how_many((5, 12), effect, cuts)), str(by_characters(effect, cuts)))
        self.assertGreater(how_many((5, 12), plain_effect((5, 12), ()), 48), 120 ** 36)

    def test_each_number_of_cuts_of_five_ribbons(self):
        for long in (1, 2, 5):
            for effect in some_effects((5, long)):
                for cuts in range(49):
                    self.assertEqual(how_many((5, long), effect, cuts), by_characters(effect, cuts))

    def test_bounds_of_the_number_of_cuts(self):
        self.assertEqual(how_many((2, 1), ((0, 1),), 0), 1)
        self.assertEqual(how_many((2, 1), ((0, 1),), 48), 1)
        self.assertEqual(how_many((2, 1), ((0, 1),), 47), 0)
        for thing in NO_CUTS:
            self.refused(NoCuts, how_many, FRAME, EFFECT, thing)
            self.refused(NoCuts, how_many, (1, 1), ((0,),), thing)

    def test_refusals_in_their_order(self):
        self.refused_without_frame(how_many, EFFECT, 3)
        for thing in NO_EFFECTS:
            for cuts in (3, 49, True, None):
                self.refused(NoEffect, how_many, FRAME, thing, cuts)
        for thing in spoilt(EFFECT):
            if not plainly_effect(FRAME, thing):
                self.refused(NoEffect, how_many, FRAME, thing, -1)


class HowManyShortTest(RefusalCase):
    def test_one_round_at_one_place(self):
        numbers = []
        for many in range(1, 6):
            told = {how_many_short((many, 1), (joint,)) for joint in itertools.permutations(range(many))
                    if len(plain_rounds(joint)) == 1}
            self.assertEqual(len(told), 1)
            numbers.extend(told)
        self.assertEqual(numbers, [1, 1, 3, 16, 125])

    def test_the_same_wherever_the_round_is(self):
        for place in range(12):
            joints = [tuple(range(5))] * 12
            for ribbons, number in [([3], 1), ([1, 4], 1), ([4, 0, 2], 3), ([0, 1, 2, 3], 16), ([4, 3, 2, 1, 0], 125)]:
                joints[place] = turning(5, ribbons)
                self.assertEqual(how_many_short((5, 12), effect_of_joints(*joints)), number)

    def test_several_rounds_and_places_are_put_into_one_another(self):
        two = turning(5, [0, 1], [2, 3])
        self.assertEqual(how_many_short((5, 1), effect_of_joints(two)), 2)
        self.assertEqual(how_many_short((5, 1), effect_of_joints(turning(5, [0, 1], [2, 3, 4]))), 3 * 3)
        self.assertEqual(how_many_short((5, 2), effect_of_joints(two, two)), 24)
        three = turning(5, [0, 1, 2])
        self.assertEqual(how_many_short((5, 2), effect_of_joints(three, three)), 6 * 3 * 3)
        self.assertEqual(how_many_short((5, 2), effect_of_joints(three, two)), 6 * 3 * 2)

    def test_five_ribbons_and_twelve_places(self):
        whole = effect_of_joints(*[turning(5, [0, 1, 2, 3, 4])] * 12)
        ways = math.factorial(48) // math.factorial(4) ** 12 * 125 ** 12
        self.assertEqual(how_many_short((5, 12), whole), ways)

    def test_against_all_rows_layer_by_layer(self):
        for frame in SMALL:
            many, long = frame
            having = {}
            for layer in layers(frame, (many - 1) * long):
                for effect, (number, _) in layer.items():
                    having.setdefault(effect, number)
            for effect in effects_of(frame):
                self.assertEqual(repr(how_many_short(frame, effect)), repr(having[effect]))

    def test_as_many_as_have_just_so_few_cuts(self):
        for frame in FRAMES:
            for effect in some_effects(frame, 2):
                cuts = plain_fewest(effect)
                self.assertEqual(how_many_short(frame, effect), how_many(frame, effect, cuts))
                for fewer in {0, cuts // 2, max(cuts - 2, 0)} - {cuts}:
                    self.assertEqual(how_many(frame, effect, fewer), 0)

    def test_refusals_in_their_order(self):
        self.refused_without_frame(how_many_short, EFFECT)
        for thing in NO_EFFECTS:
            self.refused(NoEffect, how_many_short, FRAME, thing)


class HowManyTakeTest(RefusalCase):
    def test_known_numbers(self):
        self.assertEqual([how_many_take((1, 12), cuts) for cuts in range(3)], [1, 0, 0])
        self.assertEqual([how_many_take((3, 1), cuts) for cuts in range(4)], [1, 3, 2, 0])
        self.assertEqual([how_many_take((5, 1), cuts) for cuts in range(6)], [1, 10, 35, 50, 24, 0])
        self.assertEqual([how_many_take((2, 3), cuts) for cuts in range(5)], [1, 3, 3, 1, 0])
        self.assertEqual(how_many_take((5, 12), 48), 24 ** 12)
        self.assertEqual(how_many_take((5, 12), 1), 120)

    def test_against_the_fewest_of_all_effects(self):
        for frame in SMALL:
            takes = {}
            for cuts, layer in enumerate(layers(frame, frame[1] * (frame[0] - 1))):
                for effect in layer:
                    takes.setdefault(effect, cuts)
            taken = list(takes.values())
            for cuts in range(49):
                self.assertEqual(repr(how_many_take(frame, cuts)), repr(taken.count(cuts)))

    def test_all_numbers_of_cuts_together_have_all_effects(self):
        for many, long in FRAMES:
            total = sum(how_many_take((many, long), cuts) for cuts in range(49))
            self.assertEqual(total, math.factorial(many) ** long)

    def test_refusals_in_their_order(self):
        self.refused_without_frame(how_many_take, 3)
        for thing in NO_CUTS:
            self.refused(NoCuts, how_many_take, FRAME, thing)
            self.refused(NoCuts, how_many_take, (1, 1), thing)


if __name__ == "__main__":
    unittest.main()
