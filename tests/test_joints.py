"""[40], [41]: joints, the fewest cuts, the least of the shortest rows; [5] as far as they show it."""

import itertools
import unittest

from tailswap.errors import NoEffect, NoJoints, NoRow
from tailswap.joints import fewest, is_short, joints, shortest, with_joints
from tests.plain import (
    FRAMES, cut_behind, cuts_of, effect_of_joints, effects_of, layers, plain_effect, plain_fewest, plain_joints,
    plainly_effect, plainly_row, played, rows_of, some_effects, some_rows, spoilt, turning,
)
from tests.refusals import EFFECT, FRAME, NO_EFFECTS, RefusalCase

# Small enough for all their effects, and for all rows layer by layer, down to the farthest effect.
SMALL = [(1, 1), (1, 3), (2, 1), (2, 4), (3, 1), (3, 2), (3, 3), (4, 1), (4, 2), (5, 1)]


def farthest(frame):
    many, long = frame
    return (many - 1) * long


def joint_bead_by_bead(frame, row, place):
    """Tell the joint of a row's effect at a place from where each bead lies."""
    many, _ = frame
    beads = played(frame, row)
    if place == 0:
        return tuple(beads[ribbon, 0] for ribbon in range(many))
    lies = {beads[ribbon, place - 1]: ribbon for ribbon in range(many)}
    return tuple(beads[lies[ribbon], place] for ribbon in range(many))


class JointsTest(RefusalCase):
    def test_by_the_point_s_words(self):
        # At place 0 ribbons begin by 1, 2 and 0; bead 1 of place 0 is followed by 2, bead 2 by 1, bead 0 by 0.
        self.assertEqual(joints((3, 2), ((1, 2, 0), (2, 1, 0))), ((1, 2, 0), (0, 2, 1)))
        self.assertEqual(joints((3, 3), ((0, 1, 2), (1, 2, 0), (1, 2, 0))), ((0, 1, 2), (1, 2, 0), (0, 1, 2)))
        self.assertEqual(joints((2, 3), ((1, 0), (1, 0), (0, 1))), ((1, 0), (0, 1), (1, 0)))

    def test_bead_by_bead(self):
        for frame in FRAMES:
            for row in some_rows(frame):
                told = tuple(joint_bead_by_bead(frame, row, place) for place in range(frame[1]))
                self.assertEqual(repr(joints(frame, plain_effect(frame, row))), repr(told))

    def test_of_whichever_effect(self):
        for frame in FRAMES:
            for effect in some_effects(frame):
                self.assertEqual(repr(joints(frame, effect)), repr(plain_joints(effect)))

    def test_one_ribbon_and_one_place(self):
        self.assertEqual(joints((1, 1), ((0,),)), ((0,),))
        self.assertEqual(joints((1, 12), ((0,),) * 12), ((0,),) * 12)
        self.assertEqual(joints((5, 1), ((4, 2, 0, 1, 3),)), ((4, 2, 0, 1, 3),))

    def test_refusals_in_their_order(self):
        self.refused_without_frame(joints, EFFECT)
        for thing in NO_EFFECTS:
            self.refused(NoEffect, joints, FRAME, thing)

    def test_of_anything_for_an_effect(self):
        for thing in spoilt(EFFECT):
            if plainly_effect(FRAME, thing):
                self.assertEqual(joints(FRAME, thing), plain_joints(thing))
            else:
                self.refused(NoEffect, joints, FRAME, thing)


class WithJointsTest(RefusalCase):
    def test_by_the_point_s_words(self):
        self.assertEqual(with_joints((3, 2), ((1, 2, 0), (0, 2, 1))), ((1, 2, 0), (2, 1, 0)))
        self.assertEqual(with_joints((2, 3), ((1, 0), (0, 1), (1, 0))), ((1, 0), (1, 0), (0, 1)))
        self.assertEqual(with_joints((1, 1), ((0,),)), ((0,),))

    def test_there_and_back_both_ways(self):
        for frame in SMALL:
            told = [joints(frame, effect) for effect in effects_of(frame)]
            self.assertEqual(sorted(told), sorted(effects_of(frame)))
            for effect in effects_of(frame):
                self.assertEqual(repr(with_joints(frame, joints(frame, effect))), repr(effect))
                self.assertEqual(repr(joints(frame, with_joints(frame, effect))), repr(effect))

    def test_there_and_back_in_each_frame(self):
        for frame in FRAMES:
            for thing in some_effects(frame):
                self.assertEqual(repr(with_joints(frame, joints(frame, thing))), repr(thing))
                self.assertEqual(repr(joints(frame, with_joints(frame, thing))), repr(thing))

    def test_refusals_in_their_order(self):
        self.refused_without_frame(with_joints, EFFECT)
        for thing in NO_EFFECTS:
            self.refused(NoJoints, with_joints, FRAME, thing)

    def test_of_anything_for_joints(self):
        for thing in spoilt(EFFECT):
            if plainly_effect(FRAME, thing):
                self.assertEqual(plain_joints(with_joints(FRAME, thing)), thing)
            else:
                self.refused(NoJoints, with_joints, FRAME, thing)


class FewestTest(RefusalCase):
    def test_against_all_rows_layer_by_layer(self):
        for frame in SMALL:
            met = {}
            for cuts, layer in enumerate(layers(frame, farthest(frame))):
                for effect in layer:
                    met.setdefault(effect, cuts)
            self.assertEqual(len(met), len(effects_of(frame)))
            for effect, cuts in met.items():
                self.assertEqual(repr(fewest(frame, effect)), repr(cuts))

    def test_nothing_takes_none(self):
        for frame in FRAMES:
            self.assertEqual(repr(fewest(frame, plain_effect(frame, ()))), "0")

    def test_ribbons_less_rounds_of_all_joints_together(self):
        for frame in FRAMES:
            for effect in some_effects(frame):
                self.assertEqual(fewest(frame, effect), plain_fewest(effect))

    def test_five_ribbons_and_twelve_places(self):
        whole = turning(5, [0, 3, 1, 4, 2])
        self.assertEqual(fewest((5, 12), effect_of_joints(*[whole] * 12)), 48)
        halves = turning(5, [0, 3], [1, 4, 2])
        self.assertEqual(fewest((5, 12), effect_of_joints(*[halves] * 12)), 36)

    def test_a_row_has_no_fewer_and_as_many_less_an_even_number(self):
        for frame in FRAMES:
            for row in some_rows(frame):
                spare = len(row) - fewest(frame, plain_effect(frame, row))
                self.assertGreaterEqual(spare, 0)
                self.assertEqual(spare % 2, 0)

    def test_refusals_in_their_order(self):
        self.refused_without_frame(fewest, EFFECT)
        for thing in NO_EFFECTS:
            self.refused(NoEffect, fewest, FRAME, thing)


class ShortestTest(RefusalCase):
    def test_known_rows(self):
        self.assertEqual(shortest((3, 1), ((1, 2, 0),)), ((0, 0, 1), (0, 1, 2)))
        self.assertEqual(shortest((3, 1), ((2, 0, 1),)), ((0, 0, 1), (0, 0, 2)))
        self.assertEqual(shortest((3, 2), ((0, 2, 1), (0, 1, 2))), ((0, 1, 2), (1, 1, 2)))
        self.assertEqual(shortest((4, 2), ((0, 1, 2, 3), (3, 2, 1, 0))), ((1, 0, 3), (1, 1, 2)))

    def test_nothing_takes_none(self):
        for frame in FRAMES:
            self.assertEqual(shortest(frame, plain_effect(frame, ())), ())

    def test_the_least_of_all_rows_of_so_many_cuts(self):
        for frame in [(2, 3), (3, 1), (3, 2), (4, 1)]:
            least = {}
            for length in range(farthest(frame) + 1):
                rows = {}
                for row in rows_of(frame, length):
                    rows.setdefault(plain_effect(frame, row), []).append(row)
                for effect, having in rows.items():
                    least.setdefault(effect, min(having))
            for effect, row in least.items():
                self.assertEqual(repr(shortest(frame, effect)), repr(row))

    def test_the_least_layer_by_layer(self):
        for frame in SMALL:
            least = {}
            for layer in layers(frame, farthest(frame)):
                for effect, (_, row) in layer.items():
                    least.setdefault(effect, row)
            for effect in effects_of(frame):
                self.assertEqual(repr(shortest(frame, effect)), repr(least[effect]))

    def test_no_lesser_cut_would_do_in_any_frame(self):
        for frame in FRAMES:
            for effect in some_effects(frame, 1):
                self.is_the_least(frame, effect)

    def test_five_ribbons_and_twelve_places(self):
        for joint in [turning(5, [0, 3, 1, 4, 2]), turning(5, [0, 1, 2, 3, 4]), turning(5, [0, 3], [1, 4, 2])]:
            self.is_the_least((5, 12), effect_of_joints(*[joint] * 12))

    def is_the_least(self, frame, effect):
        row = shortest(frame, effect)
        self.assertTrue(plainly_row(frame, row))
        self.assertEqual(plain_effect(frame, row), effect)
        self.assertEqual(len(row), plain_fewest(effect))
        # What is still to be done is the effect of the rest; undone ahead by a cut, it must not take fewer.
        for at, taken in enumerate(row):
            for cut in cuts_of(frame):
                if cut < taken:
                    rest = plain_effect(frame, (cut,) + row[at:])
                    self.assertGreater(plain_fewest(rest), len(row) - at)

    def test_refusals_in_their_order(self):
        self.refused_without_frame(shortest, EFFECT)
        for thing in NO_EFFECTS:
            self.refused(NoEffect, shortest, FRAME, thing)


class IsShortTest(RefusalCase):
    def test_known_rows(self):
        self.assertIs(is_short((3, 4), ()), True)
        self.assertIs(is_short((3, 4), ((2, 0, 1),)), True)
        self.assertIs(is_short((3, 4), ((2, 0, 1), (2, 0, 1))), False)
        self.assertIs(is_short((3, 4), ((2, 0, 1), (3, 0, 1))), True)
        self.assertIs(is_short((3, 4), ((2, 0, 1), (2, 1, 2))), True)
        self.assertIs(is_short((3, 4), ((2, 0, 1), (2, 1, 2), (2, 0, 1))), False)
        # The cut between calls ribbons anew at the place behind it, so the third one doesn't undo the first one.
        self.assertIs(is_short((3, 4), ((2, 0, 1), (1, 1, 2), (2, 0, 1))), True)
        self.assertIs(is_short((3, 4), ((2, 0, 1), (1, 1, 2), (2, 0, 2))), False)
        self.assertIs(is_short((1, 1), ()), True)

    def test_against_all_rows(self):
        for frame in [(2, 3), (3, 2), (4, 1)]:
            met = {}
            for length in range(6):
                for row in rows_of(frame, length):
                    takes = met.setdefault(plain_effect(frame, row), length)
                    self.assertIs(is_short(frame, row), takes == length)

    def test_with_cuts_to_spare_and_without(self):
        for frame in FRAMES:
            for effect in some_effects(frame, 2):
                row = shortest(frame, effect)
                self.assertIs(is_short(frame, row), True)
                for cut in cuts_of(frame)[::7]:
                    self.assertIs(is_short(frame, (cut, cut) + row), False)
                    self.assertIs(is_short(frame, row + (cut, cut)), False)

    def test_a_row_longer_than_sixty(self):
        self.assertIs(is_short((5, 12), ((0, 0, 1), (11, 3, 4)) * 40), False)

    def test_refusals_in_their_order(self):
        self.refused_without_frame(is_short, ())
        for thing in spoilt(((1, 0, 2), (0, 0, 1))):
            if not plainly_row(FRAME, thing):
                self.refused(NoRow, is_short, FRAME, thing)


class PromiseTest(unittest.TestCase):
    def test_each_cut_turns_just_the_joint_at_its_place_by_one_exchange(self):
        for frame in [(2, 3), (3, 4), (5, 12)]:
            for effect in some_effects(frame):
                before = joints(frame, effect)
                for cut in cuts_of(frame):
                    after = joints(frame, cut_behind(effect, cut))
                    unlike = [place for place in range(frame[1]) if before[place] != after[place]]
                    self.assertEqual(unlike, [cut[0]])
                    turned = [ribbon for ribbon in range(frame[0]) if before[cut[0]][ribbon] != after[cut[0]][ribbon]]
                    self.assertEqual(len(turned), 2)

    def test_the_fewest_cuts_are_told_joint_by_joint(self):
        alone = (0, 1, 2)
        for told in itertools.product(itertools.permutations(range(3)), repeat=3):
            each = [(told[0], alone, alone), (alone, told[1], alone), (alone, alone, told[2])]
            together = sum(fewest((3, 3), effect_of_joints(*joints)) for joints in each)
            self.assertEqual(fewest((3, 3), effect_of_joints(*told)), together)


if __name__ == "__main__":
    unittest.main()
