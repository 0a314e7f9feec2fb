"""[1], [5]: all modules tell of one and the same thing alike."""

import itertools
import random
import unittest

from tailswap.bench import Bench
from tailswap.between import how_many_between, how_many_follow, is_between
from tailswap.boards import frame_of
from tailswap.counts import how_many, how_many_short, how_many_take
from tailswap.desk import Desk
from tailswap.errors import NothingDone
from tailswap.exchanges import leading, shows_leading
from tailswap.far import behind_far, round_from, round_of
from tailswap.goals import shows_wish, wish
from tailswap.joints import fewest, is_short, joints, shortest, with_joints
from tailswap.order import exchanged, parts, rising
from tailswap.prices import how_many_boards, priced, shows_priced
from tailswap.rows import behind, does, led, undoing
from tailswap.some import how_many_pieces, pieces, shows_some, some_wish
from tailswap.texts import board_text, read_board, read_row, row_text
from tailswap.ways import how_many_lead
from tests.plain import FRAMES, boards_by_cuts, boards_of, columns, effects_of, mixed_board, rows_of, unlike_board



def turned_about(board):
    """Tell the board that has, at every other place, the beads of each ribbon on the one across."""
    there = [beads[::-1] if place % 2 else beads for place, beads in enumerate(columns(board))]
    return tuple("".join(text) for text in zip(*there))


# Of each frame boards and goals of few letters, and one of unlike beads.
GOALS = [mixed_board(frame, "abc", seed) for frame in FRAMES for seed in (1, 2)]
UNLIKE = [(unlike_board(frame), turned_about(unlike_board(frame))) for frame in FRAMES]
BOTH = GOALS + UNLIKE


class WayTest(unittest.TestCase):
    def test_goals_prices_and_wishes_of_all_ribbons(self):
        for board, goal in BOTH:
            frame = frame_of(board)
            _, cuts, row = wish(board, goal)
            ones = (1,) * frame[1]
            self.assertEqual(behind(board, row), goal)
            self.assertEqual(priced(board, goal, ones)[:2], ("coins", cuts))
            self.assertEqual(some_wish(board, goal)[:2], ("cuts", cuts))
            for told in (row, priced(board, goal, ones)[2], some_wish(board, goal)[2]):
                self.assertTrue(shows_wish(board, goal, ("cuts", cuts, told)))
                self.assertTrue(shows_priced(board, goal, ones, ("coins", cuts, told)))
                self.assertTrue(shows_some(board, goal, ("cuts", cuts, told)))

    def test_the_told_row_its_effect_and_its_joints(self):
        for board, goal in BOTH:
            frame = frame_of(board)
            _, cuts, row = wish(board, goal)
            effect = does(frame, row)
            self.assertEqual(led(board, effect), goal)
            self.assertEqual(fewest(frame, effect), cuts)
            self.assertTrue(is_short(frame, row))
            self.assertEqual(with_joints(frame, joints(frame, effect)), effect)
            short = shortest(frame, effect)
            self.assertEqual(does(frame, short), effect)
            self.assertEqual(len(short), cuts)
            self.assertLessEqual(short, rising(frame, row))
            self.assertTrue(shows_wish(board, goal, ("cuts", cuts, short)))
            self.assertEqual(behind(goal, undoing(frame, row)), board)
            self.assertEqual(wish(goal, board)[1], cuts)

    def test_risen_and_exchanged(self):
        chooser = random.Random(1)
        for board, goal in BOTH:
            frame = frame_of(board)
            _, cuts, row = wish(board, goal)
            other = row
            for _ in range(60 if cuts > 1 else 0):
                other = exchanged(frame, other, chooser.randrange(cuts - 1))
            for told in (other, rising(frame, other), shortest(frame, does(frame, row))):
                self.assertIs(parts(frame, row, told), None)
                self.assertTrue(shows_wish(board, goal, ("cuts", cuts, told)))
                word, numbers = leading(frame, row, told)
                self.assertEqual(word, "numbers")
                self.assertTrue(shows_leading(frame, row, told, (word, numbers)))
                now = row
                for at in numbers:
                    now = exchanged(frame, now, at)
                self.assertEqual(now, told)

    def test_what_lies_on_the_way(self):
        for board, goal in BOTH:
            frame = frame_of(board)
            _, cuts, row = wish(board, goal)
            effect = does(frame, row)
            for many in range(cuts + 1):
                self.assertTrue(is_between(frame, does(frame, row[:many]), effect))
                self.assertEqual(fewest(frame, does(frame, row[:many])), many)
            for many in {0, cuts // 2, cuts}:
                self.assertEqual(wish(behind(board, row[:many]), goal)[1], cuts - many)
            for place in range(frame[1]):
                told = [how_many_follow(frame, effect, place, 0, other) for other in range(frame[0])]
                self.assertEqual(sum(told), how_many_between(frame, effect))

    def test_played_far(self):
        for board, goal in BOTH:
            frame = frame_of(board)
            row = wish(board, goal)[2]
            times = round_of(frame, row)
            self.assertEqual(behind_far(board, row, 1), goal)
            self.assertEqual(behind_far(board, row, times * 16000000000), board)
            self.assertEqual(behind_far(board, row, times * 16000000000 + 1), goal)
            self.assertEqual(behind_far(goal, row, times - 1), board)
            self.assertEqual(times % round_from(board, row), 0)
            self.assertEqual(does(frame, row * times), does(frame, ()))

    def test_at_a_bench(self):
        for board, goal in BOTH:
            frame = frame_of(board)
            _, cuts, row = wish(board, goal)
            bench = Bench(board)
            for cut in row:
                bench.cut(*cut)
            whole = Bench(board)
            whole.play(shortest(frame, does(frame, row)))
            self.assertEqual(bench, whole)
            self.assertEqual((bench.board(), bench.row(), bench.spare()), (goal, row, 0))
            self.assertEqual((len(bench), len(whole)), (cuts, 1))
            effect = does(frame, row)
            for ribbon in range(frame[0]):
                for whose, first, last in pieces(frame, effect, ribbon):
                    self.assertEqual({bench.whose(ribbon, place) for place in range(first, last + 1)}, {whose})
            bench.play(undoing(frame, row))
            self.assertEqual(bench, Bench(board))
            self.assertEqual(bench.spare(), 2 * cuts)

    def test_at_a_desk(self):
        for board, goal in BOTH:
            frame = frame_of(board)
            _, cuts, row = wish(board, goal)
            desk = Desk()
            self.assertEqual(desk.say("board " + " ".join(board)), "ok")
            self.assertEqual(desk.say("fewest " + " ".join(goal)), str(cuts))
            self.assertEqual(desk.say("play " + row_text(frame, row)), "ok")
            self.assertEqual(desk.say("show"), " ".join(goal))
            self.assertEqual(read_board("\n".join(desk.say("show").split(" ")) + "\n"), goal)
            self.assertEqual(read_row(frame, desk.say("row")), row)
            self.assertEqual(desk.say("spare"), "0")
            self.assertEqual(desk.say("fewest " + " ".join(board)), str(cuts))
            self.assertEqual(desk.say("round " + desk.say("row")), str(round_of(frame, row)))
            self.assertEqual(desk.say("undo"), "ok")
            self.assertEqual(desk.say("show"), " ".join(board))
            with self.assertRaises(NothingDone):
                desk.say("undo")

    def test_texts(self):
        for board, goal in BOTH:
            frame = frame_of(board)
            row = wish(board, goal)[2]
            self.assertEqual(behind(read_board(board_text(board)), read_row(frame, row_text(frame, row))), goal)

    def test_how_many_rows_are_as_short(self):
        for board, goal in UNLIKE:
            frame = frame_of(board)
            _, cuts, row = wish(board, goal)
            effect = does(frame, row)
            self.assertEqual(how_many_short(frame, effect), how_many(frame, effect, cuts))
            if cuts <= 12:
                self.assertEqual(how_many_lead(board, goal, cuts), how_many_short(frame, effect))
        for board, goal in GOALS:
            frame = frame_of(board)
            _, cuts, row = wish(board, goal)
            if cuts <= 12:
                self.assertGreaterEqual(how_many_lead(board, goal, cuts), how_many_short(frame, does(frame, row)))
                self.assertEqual(sum(how_many_lead(board, goal, fewer) for fewer in range(cuts)), 0)


class WholeFramesTest(unittest.TestCase):
    """All effects, boards and rows of small frames."""

    def test_effects_by_how_many_cuts_they_take(self):
        for frame in [(2, 4), (3, 2), (3, 3), (4, 2), (5, 1)]:
            board = unlike_board(frame)
            takes = [fewest(frame, effect) for effect in effects_of(frame)]
            for cuts in range(max(takes) + 2):
                self.assertEqual(how_many_take(frame, cuts), takes.count(cuts))
            self.assertEqual(how_many_boards(board, (1,) * frame[1]), len(takes))

    def test_rows_counted_by_effects_and_by_boards(self):
        for frame in [(2, 3), (3, 2), (4, 1)]:
            board, _ = mixed_board(frame, "aab")
            for cuts in range(5):
                by_effect = {effect: how_many(frame, effect, cuts) for effect in effects_of(frame)}
                self.assertEqual(sum(by_effect.values()), len(rows_of(frame, cuts)))
                for goal in boards_by_cuts(board):
                    told = sum(number for effect, number in by_effect.items() if led(board, effect) == goal)
                    self.assertEqual(how_many_lead(board, goal, cuts), told)

    def test_like_beads_take_the_fewest_of_all_effects_that_lead_there(self):
        for frame in [(2, 4), (3, 2), (3, 3), (4, 2)]:
            board, _ = mixed_board(frame, "aab")
            least = {}
            for effect in effects_of(frame):
                goal = led(board, effect)
                least[goal] = min(fewest(frame, effect), least.get(goal, 48))
            for goal, cuts in least.items():
                self.assertEqual(wish(board, goal)[:2], ("cuts", cuts))

    def test_a_board_leads_to_another_one_just_where_each_piece_is_there(self):
        for prices in itertools.product((None, 1), repeat=3):
            for board in boards_of((2, 3), "ab")[::5]:
                reached = [goal for goal in boards_of((2, 3), "ab") if priced(board, goal, prices)[0] == "coins"]
                self.assertEqual(len(reached), how_many_boards(board, prices))

    def test_of_one_ribbon_nothing_can_be_done(self):
        for long in range(1, 13):
            board = unlike_board((1, long))
            self.assertEqual(wish(board, board), ("cuts", 0, ()))
            self.assertEqual(how_many_boards(board, (1,) * long), 1)
            self.assertEqual(how_many_lead(board, board, 12), 0)
            self.assertEqual(how_many_lead(board, board, 0), 1)
            self.assertEqual(how_many_pieces((1, long), does((1, long), ())), 1)


class PromiseTest(unittest.TestCase):
    def test_no_cleverness_over_several_places_helps(self):
        for frame in [(3, 3), (4, 2)]:
            board = unlike_board(frame)
            for effect in effects_of(frame):
                turned = joints(frame, effect)
                alone = tuple(range(frame[0]))
                each = []
                for place, joint in enumerate(turned):
                    others = [alone] * frame[1]
                    others[place] = joint
                    goal = led(board, with_joints(frame, tuple(others)))
                    each.append(wish(board, goal)[1])
                self.assertEqual(wish(board, led(board, effect))[1], sum(each))

    def test_coins_are_told_joint_by_joint(self):
        prices = (5, 1, 9)
        board = unlike_board((3, 3))
        for effect in effects_of((3, 3)):
            turned = joints((3, 3), effect)
            coins = sum(price * fewest((3, 1), (joint,)) for price, joint in zip(prices, turned))
            self.assertEqual(priced(board, led(board, effect), prices)[:2], ("coins", coins))


if __name__ == "__main__":
    unittest.main()
