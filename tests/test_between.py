"""[43]: what lies on the way to an effect."""

import itertools
import unittest

from tailswap.between import how_many_between, how_many_follow, is_between
from tailswap.errors import NoEffect, NoPlace, NoRibbon
from tests.plain import (
    FRAMES, effect_of_joints, effects_of, plain_effect, plain_fewest, plain_joints, plain_rounds, plainly_effect,
    rows_of, some_effects, spoilt, turning,
)
from tests.refusals import EFFECT, FRAME, NO_EFFECTS, NO_NUMBERS, RefusalCase

# Small enough for all rows as long as the farthest effect takes.
SMALL = [(1, 1), (1, 2), (2, 1), (2, 4), (3, 1), (3, 2), (4, 1), (5, 1)]
# How many lie on the way to one round of none to five.
CATALAN = [1, 1, 2, 5, 14, 42]


def on_the_way(frame):
    """For each effect tell all that lie on the way to it, by the point's words: by all rows of as few cuts."""
    many, long = frame
    takes = {}
    way = {}
    for length in range((many - 1) * long + 1):
        for row in rows_of(frame, length):
            effect = plain_effect(frame, row)
            if takes.setdefault(effect, length) == length:
                first = {plain_effect(frame, row[:cuts]) for cuts in range(length + 1)}
                way.setdefault(effect, set()).update(first)
    return way


WAYS = {frame: on_the_way(frame) for frame in SMALL}


def between_by_rounds(effect):
    """Tell how many lie on the way to an effect: of several rounds those to each are multiplied."""
    number = 1
    for joint in plain_joints(effect):
        for ribbons in plain_rounds(joint):
            number *= CATALAN[len(ribbons)]
    return number


class IsBetweenTest(RefusalCase):
    def test_known_effects(self):
        whole, back = ((1, 2, 0),), ((2, 0, 1),)
        self.assertIs(is_between((3, 1), ((1, 0, 2),), whole), True)
        self.assertIs(is_between((3, 1), back, whole), False)
        self.assertIs(is_between((3, 1), whole, ((1, 0, 2),)), False)
        # Ribbons 0 and 2, and 1 and 3, cross one another in a round of four.
        four = effect_of_joints(turning(4, [0, 1, 2, 3]))
        self.assertIs(is_between((4, 1), effect_of_joints(turning(4, [0, 1], [2, 3])), four), True)
        self.assertIs(is_between((4, 1), effect_of_joints(turning(4, [0, 2], [1, 3])), four), False)
        self.assertIs(is_between((4, 1), effect_of_joints(turning(4, [0, 2, 3])), four), True)
        self.assertIs(is_between((4, 1), effect_of_joints(turning(4, [0, 3, 2])), four), False)

    def test_by_the_point_s_words(self):
        for frame in SMALL:
            for other, way in WAYS[frame].items():
                for one in effects_of(frame):
                    self.assertIs(is_between(frame, one, other), one in way)

    def test_each_is_on_the_way_to_itself_and_nothing_to_each(self):
        for frame in FRAMES:
            nothing = plain_effect(frame, ())
            for effect in some_effects(frame):
                self.assertIs(is_between(frame, effect, effect), True)
                self.assertIs(is_between(frame, nothing, effect), True)
                self.assertIs(is_between(frame, effect, nothing), effect == nothing)

    def test_place_by_place(self):
        turns = [turning(3), turning(3, [0, 1]), turning(3, [0, 1, 2]), turning(3, [0, 2, 1])]
        for one in itertools.product(turns, repeat=2):
            for other in itertools.product(turns, repeat=2):
                at_each = [is_between((3, 1), (first,), (last,)) for first, last in zip(one, other)]
                both = is_between((3, 2), effect_of_joints(*one), effect_of_joints(*other))
                self.assertIs(both, all(at_each))

    def test_on_the_way_in_large_frames(self):
        for frame in [(5, 12), (4, 11), (3, 12)]:
            for effect in some_effects(frame):
                for part in self.parts_of(effect):
                    self.assertIs(is_between(frame, part, effect), True)
                    self.assertIs(is_between(frame, effect, part), part == effect)

    def parts_of(self, effect):
        """Tell effects with some of the joints of one, which are on the way to it."""
        joints = plain_joints(effect)
        alone = tuple(range(len(joints[0])))
        for kept in range(len(joints) + 1):
            yield effect_of_joints(*joints[:kept], *[alone] * (len(joints) - kept))
            yield effect_of_joints(*[alone] * kept, *joints[kept:])

    def test_refusals_in_their_order(self):
        self.refused_without_frame(is_between, EFFECT, EFFECT)
        for thing in NO_EFFECTS:
            self.refused(NoEffect, is_between, FRAME, thing, EFFECT)
            self.refused(NoEffect, is_between, FRAME, EFFECT, thing)
            self.refused(NoEffect, is_between, FRAME, thing, thing)
        for thing in spoilt(EFFECT):
            if not plainly_effect(FRAME, thing):
                self.refused(NoEffect, is_between, FRAME, thing, EFFECT)
                self.refused(NoEffect, is_between, FRAME, EFFECT, thing)


class HowManyBetweenTest(RefusalCase):
    def test_one_round(self):
        told = [how_many_between((many, 1), (turning(many, list(range(many))),)) for many in range(1, 6)]
        self.assertEqual(told, [1, 2, 5, 14, 42])

    def test_several_rounds_and_places_are_multiplied(self):
        self.assertEqual(how_many_between((5, 1), (turning(5, [0, 3], [1, 4, 2]),)), 2 * 5)
        joints = [turning(5, [0, 3], [1, 4, 2]), turning(5), turning(5, [4, 3, 2, 1])]
        self.assertEqual(how_many_between((5, 3), effect_of_joints(*joints)), 2 * 5 * 14)

    def test_by_the_point_s_words(self):
        for frame in SMALL:
            for effect, way in WAYS[frame].items():
                self.assertEqual(repr(how_many_between(frame, effect)), repr(len(way)))

    def test_by_rounds_in_each_frame(self):
        for frame in FRAMES:
            for effect in some_effects(frame):
                self.assertEqual(how_many_between(frame, effect), between_by_rounds(effect))
        whole = effect_of_joints(*[turning(5, [0, 2, 4, 1, 3])] * 12)
        self.assertEqual(how_many_between((5, 12), whole), 42 ** 12)

    def test_nothing_has_itself_alone_ahead(self):
        for frame in FRAMES:
            self.assertEqual(repr(how_many_between(frame, plain_effect(frame, ()))), "1")

    def test_refusals_in_their_order(self):
        self.refused_without_frame(how_many_between, EFFECT)
        for thing in NO_EFFECTS:
            self.refused(NoEffect, how_many_between, FRAME, thing)


class HowManyFollowTest(RefusalCase):
    def test_known_numbers(self):
        whole = (turning(5, [0, 1, 2, 3, 4]),)
        told = [how_many_follow((5, 1), whole, 0, 1, other) for other in (2, 3, 4, 0, 1)]
        # Of one round of five: the ribbons skipped are on their own, and so is the rest.
        self.assertEqual(told, [1 * 14, 1 * 5, 2 * 2, 5 * 1, 14 * 1])
        self.assertEqual(how_many_follow((1, 1), ((0,),), 0, 0, 0), 1)
        self.assertEqual(how_many_follow((5, 1), (turning(5, [0, 1], [2, 3, 4]),), 0, 0, 1), 5)
        self.assertEqual(how_many_follow((5, 1), (turning(5, [0, 1], [2, 3, 4]),), 0, 0, 2), 0)
        self.assertEqual(how_many_follow((5, 1), (turning(5, [0, 1], [2, 3, 4]),), 0, 4, 3), 2)

    def test_by_the_point_s_words(self):
        for frame in SMALL:
            many, long = frame
            for effect, way in WAYS[frame].items():
                joints = [plain_joints(between) for between in way]
                for place in range(long):
                    for one, other in itertools.product(range(many), repeat=2):
                        number = sum(told[place][one] == other for told in joints)
                        self.assertEqual(repr(how_many_follow(frame, effect, place, one, other)), repr(number))

    def test_whichever_follows_one_all_together_are_all(self):
        for frame in FRAMES:
            many, long = frame
            for effect in some_effects(frame, 2):
                for place in range(long):
                    for one in range(many):
                        told = [how_many_follow(frame, effect, place, one, other) for other in range(many)]
                        self.assertEqual(sum(told), between_by_rounds(effect))

    def test_at_each_place_of_a_large_frame(self):
        for effect in some_effects((5, 12)):
            joints = plain_joints(effect)
            for place in range(12):
                elsewhere = between_by_rounds(effect) // between_by_rounds((joints[place],))
                for one, other in itertools.product(range(5), repeat=2):
                    there = sum(told[0][one] == other for told in WAYS[5, 1][(joints[place],)])
                    self.assertEqual(how_many_follow((5, 12), effect, place, one, other), there * elsewhere)

    def test_bounds_of_places_and_ribbons(self):
        for place in (0, 1):
            for one, other in itertools.product((0, 2), repeat=2):
                self.assertGreaterEqual(how_many_follow(FRAME, EFFECT, place, one, other), 0)
        for thing in [*NO_NUMBERS, 2]:
            self.refused(NoPlace, how_many_follow, FRAME, EFFECT, thing, 0, 1)
        for thing in [*NO_NUMBERS, 3]:
            self.refused(NoRibbon, how_many_follow, FRAME, EFFECT, 0, thing, 1)
            self.refused(NoRibbon, how_many_follow, FRAME, EFFECT, 0, 1, thing)
            self.refused(NoRibbon, how_many_follow, FRAME, EFFECT, 1, thing, thing)
        self.refused(NoPlace, how_many_follow, (5, 2), plain_effect((5, 2), ()), 2, 4, 4)
        self.refused(NoRibbon, how_many_follow, (2, 5), plain_effect((2, 5), ()), 4, 2, 0)
        self.refused(NoRibbon, how_many_follow, (2, 5), plain_effect((2, 5), ()), 4, 0, 2)

    def test_refusals_in_their_order(self):
        self.refused_without_frame(how_many_follow, EFFECT, 0, 0, 1)
        for thing in NO_EFFECTS:
            self.refused(NoEffect, how_many_follow, FRAME, thing, 0, 0, 1)
            self.refused(NoEffect, how_many_follow, FRAME, thing, -1, -1, -1)
        for thing in NO_NUMBERS:
            self.refused(NoPlace, how_many_follow, FRAME, EFFECT, thing, -1, 0)
            self.refused(NoPlace, how_many_follow, FRAME, EFFECT, thing, 0, -1)
            self.refused(NoPlace, how_many_follow, FRAME, EFFECT, thing, thing, thing)


class FarthestTest(unittest.TestCase):
    def test_the_small_frames_are_gone_through_whole(self):
        for frame in SMALL:
            self.assertEqual(sorted(WAYS[frame]), sorted(effects_of(frame)))
            for effect, way in WAYS[frame].items():
                self.assertEqual(max(map(plain_fewest, way)), plain_fewest(effect))


if __name__ == "__main__":
    unittest.main()
