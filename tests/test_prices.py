"""[61]: for how few coins a board leads to another one, and how many boards it leads to."""

import itertools
import math
import unittest

from tailswap.errors import NoBoard, NoGoal, NoPrices
from tailswap.goals import wish
from tailswap.prices import how_many_boards, priced, shows_priced
from tests.plain import (
    FRAMES, boards_by_coins, boards_by_cuts, boards_of, mixed_board, plain_behind, plain_coins, plain_frame,
    plainly_row, rows_of, some_boards, spoilt, unlike_board, whole,
)
from tests.refusals import NO_BOARDS, RefusalCase, boards_of_other_frames

BOARD = ("abcd", "abef", "aacd")
GOAL = ("aacf", "abed", "abcd")
PRICES = (3, None, 1, 9)
NO_PRICES = [
    (), (1,), (1, 1, 1), (1,) * 5, (1,) * 12, [3, None, 1, 9], (0, 1, 1, 1), (1, 1, 1, 10), (1, -1, 1, 1),
    (True, 1, 1, 1), (1, False, 1, 1), (1, 1, "1", 1), (1, 1, (1,), 1), (1, [1], 1, 1), (1, 1, 1, 9999999999999),
    "1111", {0: 1, 1: 1, 2: 1, 3: 1}, None, True, 0, 4, "", ((1, 1, 1, 1),), (1, 1, {}, None), (None, None, None, ()),
    (1, 1, 1, ""), (None, None, None), (None,) * 5,
]


def plain_prices(long):
    """Tell prices with None nowhere, at place 0, at the end, in the midst, there in a row, and everywhere."""
    told = [(1,) * long, tuple(1 + (5 * place + 8) % 9 for place in range(long)), (9,) * long, (None,) * long]
    for first, last in [(0, 0), (0, 1), (1, 1), (1, 2), (long - 1, long - 1), (long - 2, long - 1), (1, long - 1)]:
        told.append(tuple(None if first <= place <= last else 2 + place % 3 for place in range(long)))
    return told


def plain_pieces(prices):
    """Tell for each piece its first place and its last one, by the point's words."""
    told = []
    for place, price in enumerate(prices):
        if place == 0 or price is not None:
            told.append([place, place])
        else:
            told[-1][1] = place
    return [tuple(piece) for piece in told]


def plain_lacking(board, goal, prices):
    """Tell the pieces that aren't there, by the point's words."""
    told = []
    for first, last in plain_pieces(prices):
        had = [text[first:last + 1] for text in board]
        wanted = [text[first:last + 1] for text in goal]
        if first > 0 or prices[0] is not None:
            had, wanted = sorted(had), sorted(wanted)
        if had != wanted:
            told.append((first, last))
    return told


def plainly_shown(board, goal, prices, least, thing):
    """Tell by the point's words whether thing shows the least coins (None: there are none), or a piece that lacks."""
    if type(thing) is not tuple or len(thing) != 3:
        return False
    word, one, other = thing
    if word == "coins" and type(one) is int and plainly_row(plain_frame(board), other):
        paid = [prices[cut[0]] for cut in other]
        return None not in paid and sum(paid) == one == least and plain_behind(board, other) == goal
    if word == "lacks" and whole(one, 0, len(prices) - 1) and whole(other, 0, len(prices) - 1):
        return (one, other) in plain_lacking(board, goal, prices)
    return False


class PricedTest(RefusalCase):
    def told_right(self, board, goal, prices, least):
        told = priced(board, goal, prices)
        lacking = plain_lacking(board, goal, prices)
        if least is None:
            self.assertEqual(repr(told), repr(("lacks", *min(lacking))))
        else:
            self.assertEqual(lacking, [])
            self.assertEqual(repr(told[:2]), repr(("coins", least)))
            self.assertTrue(plainly_shown(board, goal, prices, least, told))
        self.assertIs(shows_priced(board, goal, prices, told), True)

    def test_known_boards(self):
        self.assertEqual(priced(("ab", "cd"), ("ad", "cb"), (9, 4)), ("coins", 4, ((1, 0, 1),)))
        self.assertEqual(priced(("ab", "cd"), ("cb", "ad"), (9, 4)), ("coins", 13, ((0, 0, 1), (1, 0, 1))))
        self.assertEqual(priced(("ab", "cd"), ("cd", "ab"), (9, None)), ("coins", 9, ((0, 0, 1),)))
        self.assertEqual(priced(("ab", "cd"), ("cb", "ad"), (9, None)), ("lacks", 0, 1))
        self.assertEqual(priced(("ab", "cd"), ("cd", "ab"), (None, 1)), ("lacks", 0, 0))
        self.assertEqual(priced(("ab", "cd"), ("ad", "cb"), (None, 1)), ("coins", 1, ((1, 0, 1),)))
        self.assertEqual(priced(("ab", "cd"), ("cd", "ab"), (None, None)), ("lacks", 0, 1))
        self.assertEqual(priced(("ab", "cd"), ("ab", "cd"), (None, None)), ("coins", 0, ()))
        self.assertEqual(priced(("a",), ("b",), (1,)), ("lacks", 0, 0))

    def test_more_cuts_may_cost_less(self):
        # The dear cut at place 0 is left out, though it would be the only one.
        self.assertEqual(priced(("abc", "abd"), ("abd", "abc"), (9, 4, 5)), ("coins", 4, ((1, 0, 1),)))
        self.assertEqual(priced(("aab", "aac"), ("aac", "aab"), (9, None, 8)), ("coins", 8, ((2, 0, 1),)))
        board, goal = ("aac", "bac", "abd"), ("bac", "aad", "abc")
        fewest = wish(board, goal)[1]
        told = priced(board, goal, (9, 1, 1))
        self.assertGreaterEqual(len(told[2]), fewest)
        self.told_right(board, goal, (9, 1, 1), plain_coins(board, goal, (9, 1, 1)))

    def test_the_piece_at_place_0_that_may_not_be_cut_is_told_ribbon_by_ribbon(self):
        # The same lot of texts, but not on the same ribbons.
        self.assertEqual(priced(("abx", "cdx"), ("cdx", "abx"), (None, None, 1)), ("lacks", 0, 1))
        self.assertEqual(priced(("abx", "cdx"), ("cdx", "abx"), (1, None, 1)), ("coins", 1, ((0, 0, 1),)))
        self.assertEqual(priced(("xab", "xcd"), ("xcd", "xab"), (None, 1, None)), ("coins", 1, ((1, 0, 1),)))

    def test_pieces_are_had_whole(self):
        # Each place has its beads, but within the piece they'd have to part.
        self.assertEqual(priced(("xab", "xcd"), ("xad", "xcb"), (1, 1, None)), ("lacks", 1, 2))
        self.assertEqual(priced(("xab", "xcd"), ("xad", "xcb"), (1, 1, 1))[1], 1)

    def test_all_goals_of_small_boards(self):
        for frame, letters in [((1, 3), "ab"), ((2, 3), "ab"), ((3, 2), "ab"), ((5, 1), "ab")]:
            for prices in plain_prices(frame[1]):
                for board in boards_of(frame, letters)[::9]:
                    reached = boards_by_coins(board, prices)
                    for goal in boards_of(frame, letters):
                        self.told_right(board, goal, prices, reached.get(goal))

    def test_all_boards_to_which_cuts_lead(self):
        for frame in [(2, 5), (3, 3), (4, 2)]:
            for board in [some_boards(frame)[0], *mixed_board(frame, "pq"), *mixed_board(frame, "pqr")]:
                goals = list(boards_by_cuts(board))[::3]
                for prices in plain_prices(frame[1]):
                    reached = boards_by_coins(board, prices)
                    for goal in goals:
                        self.told_right(board, goal, prices, reached.get(goal))

    def test_at_like_prices_as_many_as_the_fewest_cuts(self):
        for frame in FRAMES:
            board, goal = mixed_board(frame, "abc")
            for price in (1, 7, 9):
                told = priced(board, goal, (price,) * frame[1])
                self.assertEqual(told[:2], ("coins", price * wish(board, goal)[1]))

    def test_four_and_five_ribbons_of_twelve_places(self):
        for frame in [(4, 12), (5, 12)]:
            for letters in ("ab", "abcde"):
                board, goal = mixed_board(frame, letters)
                for prices in [(9, 1, 5, 2, 7, 3, 8, 4, 6, 1, 9, 1), (2, 1, None, None, 3, None, 1, 1, 1, 9, 9, None)]:
                    self.told_right(board, goal, prices, plain_coins(board, goal, prices))
                    self.told_right(board, board, prices, 0)
        told = priced(("ab" * 6, "ba" * 6, "aa" * 6), ("ba" * 6, "ab" * 6, "aa" * 6), (7,) + (None,) * 11)
        self.assertEqual(told, ("coins", 7, ((0, 0, 1),)))


class ShowsPricedTest(RefusalCase):
    def test_all_rows_of_up_to_three_cuts(self):
        board, goal = ("aab", "aba"), ("aba", "aab")
        for prices in [(1, 1, 1), (3, 1, 2), (1, 2, None), (None, 1, 1), (1, None, 1), (None, None, 2)]:
            least = boards_by_coins(board, prices).get(goal)
            for length in range(4):
                for row in rows_of((2, 3), length):
                    for coins in range(8):
                        thing = ("coins", coins, row)
                        shown = plainly_shown(board, goal, prices, least, thing)
                        self.assertIs(shows_priced(board, goal, prices, thing), shown)

    def test_rows_with_a_cut_where_none_may_be(self):
        board, goal = ("ab", "cb"), ("cb", "ab")
        self.assertIs(shows_priced(board, goal, (1, None), ("coins", 1, ((0, 0, 1),))), True)
        for row in [((0, 0, 1), (1, 0, 1)), ((1, 0, 1), (0, 0, 1)), ((1, 0, 1),), ((0, 0, 1), (1, 0, 1), (1, 0, 1))]:
            for coins in range(4):
                self.assertIs(shows_priced(board, goal, (1, None), ("coins", coins, row)), False)
        for coins in range(-1, 3):
            self.assertIs(shows_priced(board, board, (None, None), ("coins", coins, ((0, 0, 1),) * 2)), False)
        self.assertIs(shows_priced(board, board, (None, None), ("coins", 0, ())), True)

    def test_each_piece(self):
        cases = [
            (("abcd", "efgh"), ("efcd", "abgh"), (None, None, 1, 1)),
            (("abcd", "efgh"), ("afgd", "ebch"), (1, 1, None, 1)),
            (("abcd", "abcd"), ("bbcd", "abca"), (1, 2, 3, 4)),
            (("abcd", "abcd"), ("abcd", "abcd"), (None, 1, None, 1)),
            (("abcd", "efgh"), ("ebcd", "afgz"), (None, 1, None, 1)),
            (("abcd",), ("aaaa",), (None,) * 4),
        ]
        for board, goal, prices in cases:
            lacking = plain_lacking(board, goal, prices)
            for first, last in itertools.product(range(-4, 6), repeat=2):
                thing = ("lacks", first, last)
                self.assertIs(shows_priced(board, goal, prices, thing), (first, last) in lacking)

    def test_truths_for_numbers(self):
        two, back = ("ab", "cd"), ("ad", "cb")
        self.assertIs(shows_priced(two, back, (1, 1), ("coins", 1, ((1, 0, 1),))), True)
        for thing in [("coins", True, ((1, 0, 1),)), ("coins", 1, ((True, 0, 1),)), ("coins", 1, ((1, False, 1),))]:
            self.assertIs(shows_priced(two, back, (1, 1), thing), False)
        self.assertIs(shows_priced(two, two, (1, 1), ("coins", False, ())), False)
        self.assertIs(shows_priced(two, ("ee", "ee"), (1, 1), ("lacks", 1, 1)), True)
        self.assertIs(shows_priced(two, ("ee", "ee"), (1, None), ("lacks", 0, 1)), True)
        for thing in [("lacks", True, 1), ("lacks", 1, True), ("lacks", True, True), ("lacks", False, 0)]:
            self.assertIs(shows_priced(two, ("ee", "ee"), (1, 1), thing), False)
        for thing in [("lacks", False, 1), ("lacks", 0, True)]:
            self.assertIs(shows_priced(two, ("ee", "ee"), (1, None), thing), False)

    def test_of_anything(self):
        cases = [
            (BOARD, GOAL, (3, 1, 1, 9)), (BOARD, BOARD, (None, 1, None, 1)), (BOARD, GOAL, (None, 1, 1, 1)),
            (BOARD, ("zbcd", "abef", "aacz"), (2, None, 2, 2)), (("a",), ("b",), (9,)), (("a",), ("a",), (None,)),
            (("ab", "cd"), ("ad", "cb"), (9, 4)),
        ]
        for board, goal, prices in cases:
            shown = priced(board, goal, prices)
            least = boards_by_coins(board, prices).get(goal)
            self.assertTrue(plainly_shown(board, goal, prices, least, shown))
            for thing in [shown, *spoilt(shown)]:
                right = plainly_shown(board, goal, prices, least, thing)
                self.assertIs(shows_priced(board, goal, prices, thing), right, thing)

    def test_other_words_and_lengths(self):
        row = ((1, 0, 1),)
        self.assertIs(shows_priced(("ab", "cd"), ("ad", "cb"), (1, 1), ("coins", 1, row)), True)
        for thing in [
            ["coins", 1, row], ("coins", 1, list(row)), ("coins", 1, ([1, 0, 1],)), ("coins", 1), ("cuts", 1, row),
            ("coins", 1, row, row), ("coin", 1, row), (1, row), ("coins", row, 1), None, True, (), {}, "coins", 1,
            ("coins", 2, row), ("coins", 0, row), ("coins", -1, row), ("coins", "1", row), ("lacks", 0, 0),
        ]:
            self.assertIs(shows_priced(("ab", "cd"), ("ad", "cb"), (1, 1), thing), False)
        self.assertIs(shows_priced(("ab", "cd"), ("ad", "ce"), (1, 1), ("lacks", 1, 1)), True)
        for thing in [
            ["lacks", 1, 1], ("lacks", 1), ("lacks", (1, 1)), ("lacks", [1], [1]), ("lack", 1, 1), ("lacks", 1, 1, 1),
            ("lacks", "1", "1"), ("lacks", None, None), ("lacks", 0, 1), ("lacks", 1, 2), ("lacks", 1, 0), (1, 1),
        ]:
            self.assertIs(shows_priced(("ab", "cd"), ("ad", "ce"), (1, 1), thing), False)

    def test_large_boards(self):
        prices = (9, 1, None, 2, 7, 3, 8, 4, 6, 1, 9, 1)
        board = mixed_board((5, 12), "aabc", 8)[0]
        goal = plain_behind(board, ((0, 0, 4), (5, 1, 2), (1, 2, 3), (11, 0, 1), (4, 3, 4)))
        told = priced(board, goal, prices)
        self.assertEqual(told[1], plain_coins(board, goal, prices))
        self.assertIs(shows_priced(board, goal, prices, told), True)
        _, coins, row = told
        self.assertIs(shows_priced(board, goal, prices, ("coins", coins + 2, row + ((11, 0, 1), (11, 0, 1)))), False)
        self.assertIs(shows_priced(board, goal, prices, ("coins", coins, row[1:])), False)


class HowManyBoardsTest(RefusalCase):
    def test_against_all_boards_gone_through(self):
        for frame in [(1, 1), (1, 4), (2, 1), (2, 4), (3, 2), (3, 3), (4, 2), (5, 1), (2, 6)]:
            for board in [*some_boards(frame), *mixed_board(frame, "pq"), *mixed_board(frame, "pqr")]:
                for prices in plain_prices(frame[1]):
                    number = len(boards_by_coins(board, prices))
                    self.assertEqual(repr(how_many_boards(board, prices)), repr(number))

    def test_large_boards(self):
        for frame in FRAMES:
            many, long = frame
            board = unlike_board(frame)
            self.assertEqual(how_many_boards(board, (1,) * long), math.factorial(many) ** long)
            self.assertEqual(how_many_boards(board, (None,) * long), 1)
            self.assertEqual(how_many_boards(board, (1,) + (None,) * (long - 1)), math.factorial(many))
            but_the_first = (None,) + (1,) * (long - 1)
            self.assertEqual(how_many_boards(board, but_the_first), math.factorial(many) ** (long - 1))
            self.assertEqual(how_many_boards(("a" * long,) * many, (1,) * long), 1)
        self.assertEqual(how_many_boards(("a" * 12,) * 2 + ("b" * 12,) * 3, (1,) * 12), 10 ** 12)
        self.assertEqual(how_many_boards(("ax", "ay", "bx", "ax", "bx"), (2, None)), 30)

    def test_refusals_in_their_order(self):
        for thing in NO_BOARDS:
            self.refused(NoBoard, how_many_boards, thing, PRICES)
            self.refused(NoBoard, how_many_boards, thing, None)
        for thing in NO_PRICES:
            self.refused(NoPrices, how_many_boards, BOARD, thing)


def plainly_prices(thing, long):
    known = {repr(price) for price in (None, *range(1, 10))}
    return type(thing) is tuple and len(thing) == long and all(repr(price) in known for price in thing)


class RefusalsTest(RefusalCase):
    def test_of_no_board(self):
        for thing in NO_BOARDS:
            for goal, prices in [(GOAL, PRICES), (None, PRICES), (GOAL, None), (thing, thing)]:
                self.refused(NoBoard, priced, thing, goal, prices)
                self.refused(NoBoard, shows_priced, thing, goal, prices, None)

    def test_of_no_goal(self):
        for thing in [*NO_BOARDS, *boards_of_other_frames(BOARD)]:
            for prices in [PRICES, None, *NO_PRICES]:
                self.refused(NoGoal, priced, BOARD, thing, prices)
                self.refused(NoGoal, shows_priced, BOARD, thing, prices, ("lacks", 0, 0))

    def test_of_no_prices(self):
        for thing in NO_PRICES:
            self.refused(NoPrices, priced, BOARD, GOAL, thing)
            for shown in [None, ("coins", 0, ()), ("lacks", 0, 0)]:
                self.refused(NoPrices, shows_priced, BOARD, GOAL, thing, shown)

    def test_of_anything_for_prices(self):
        for thing in spoilt(PRICES, [*range(-1, 12), True, False, None, "1", (), [1], (1,), 9999999999999]):
            if plainly_prices(thing, 4):
                least = plain_coins(BOARD, GOAL, thing)
                told = priced(BOARD, GOAL, thing)
                self.assertTrue(plainly_shown(BOARD, GOAL, thing, least, told))
                self.assertEqual(how_many_boards(BOARD, thing), len(boards_by_coins(BOARD, thing)))
            else:
                self.refused(NoPrices, priced, BOARD, GOAL, thing)
                self.refused(NoPrices, shows_priced, BOARD, GOAL, thing, ("lacks", 0, 0))
                self.refused(NoPrices, how_many_boards, BOARD, thing)


if __name__ == "__main__":
    unittest.main()
