"""[70]: some ribbons wished; [71]: the pieces of ribbons."""

import itertools
import unittest

from tailswap.errors import NoBoard, NoEffect, NoRibbon, NoWishes
from tailswap.goals import wish
from tailswap.some import how_many_pieces, pieces, shows_some, some_wish
from tests.plain import (
    FRAMES, boards_by_cuts, boards_of, columns, effects_of, mixed_board, plain_behind, plain_coins, plain_effect,
    plain_frame, plainly_effect, plainly_row, rows_of, some_boards, some_effects, some_rows, spoilt, unlike_board,
    whole,
)
from tests.refusals import EFFECT, FRAME, NO_BOARDS, NO_EFFECTS, NO_NUMBERS, RefusalCase

BOARD = ("abcd", "abef", "aacd")
WISHES = (None, "abed", None)
NO_WISHES = [
    (), (None,), (None, None), (None,) * 4, ("abcd",), ("abcd",) * 4, [None, "abed", None], ("abe", None, None),
    ("abedd", None, None), ("", None, None), (None, "abeD", None), (None, "ab d", None), (None, "abe1", None),
    (None, "abe\n", None), (None, ("a", "b", "e", "d"), None), (None, ["abed"], None), (None, 0, None), "abcd", None,
    (None, True, None), (None, False, None), {0: None, 1: "abed", 2: None}, True, 0, "", ((None, "abed", None),),
    (None, "ab{d", None), (None, "ab`d", None), (None, None, "abcdabcdabcd"), (None, (), None),
]


def lacks(board, wishes):
    """Tell the places at which the board has some letter fewer times than the wished texts have it."""
    told = []
    for place, there in enumerate(columns(board)):
        wanted = [text[place] for text in wishes if text is not None]
        if any(wanted.count(letter) > there.count(letter) for letter in "abcdefghijklmnopqrstuvwxyz"):
            told.append(place)
    return told


def are_so(board, wishes):
    return all(text is None or text == now for text, now in zip(wishes, board))


def fewest_of(reached, wishes):
    return min((cuts for board, cuts in reached.items() if are_so(board, wishes)), default=None)


def wishes_of(goal):
    """Tell all wishes for some ribbons of a goal, none and all of them, too."""
    return list(itertools.product(*[(None, text) for text in goal]))


def plainly_shown(board, wishes, fewest, thing):
    """Tell by the point's words whether thing shows the fewest cuts (None: there are none), or a place that lacks."""
    if type(thing) is not tuple or not thing:
        return False
    if len(thing) == 3 and thing[0] == "cuts" and plainly_row(plain_frame(board), thing[2]):
        many = type(thing[1]) is int and thing[1] == fewest == len(thing[2])
        return many and are_so(plain_behind(board, thing[2]), wishes)
    if len(thing) == 2 and thing[0] == "lacks":
        return whole(thing[1], 0, len(board[0]) - 1) and thing[1] in lacks(board, wishes)
    return False


class SomeWishTest(RefusalCase):
    def told_right(self, board, wishes, fewest):
        told = some_wish(board, wishes)
        if fewest is None:
            self.assertEqual(repr(told), repr(("lacks", min(lacks(board, wishes)))))
        else:
            self.assertEqual(lacks(board, wishes), [])
            self.assertEqual(repr(told[:2]), repr(("cuts", fewest)))
            self.assertTrue(plainly_shown(board, wishes, fewest, told), told)
        self.assertIs(shows_some(board, wishes, told), True)

    def test_known_boards(self):
        self.assertEqual(some_wish(("ab", "cd"), ("ad", None)), ("cuts", 1, ((1, 0, 1),)))
        self.assertEqual(some_wish(("ab", "cd"), (None, "cb")), ("cuts", 1, ((1, 0, 1),)))
        self.assertEqual(some_wish(("ab", "cd"), (None, None)), ("cuts", 0, ()))
        self.assertEqual(some_wish(("ab", "cd"), ("ad", "ad")), ("lacks", 0))
        self.assertEqual(some_wish(("ab", "cd"), ("aa", None)), ("lacks", 1))
        self.assertEqual(some_wish(("ab", "ad"), ("ad", "ad")), ("lacks", 1))
        self.assertEqual(some_wish(("a",), (None,)), ("cuts", 0, ()))
        self.assertEqual(some_wish(("a",), ("b",)), ("lacks", 0))
        # Two other ribbons lend it their beads, and whatever comes of these.
        self.assertEqual(some_wish(("ab", "cd", "ef"), ("cf", None, None))[1], 2)
        self.assertEqual(some_wish(("ab", "cd", "ef"), ("ed", None, None))[1], 2)

    def test_all_wishes_of_small_boards(self):
        for frame, letters in [((1, 2), "ab"), ((2, 2), "ab"), ((2, 3), "ab"), ((3, 2), "ab"), ((5, 1), "ab")]:
            many, long = frame
            texts = [None, *("".join(text) for text in itertools.product(letters, repeat=long))]
            for board in boards_of(frame, letters)[::11]:
                reached = boards_by_cuts(board)
                for wishes in itertools.product(texts, repeat=many):
                    self.told_right(board, wishes, fewest_of(reached, wishes))

    def test_wishes_for_some_ribbons_of_goals(self):
        for frame in [(2, 4), (3, 3), (4, 2), (5, 1)]:
            for board in [some_boards(frame)[0], *mixed_board(frame, "pq"), *mixed_board(frame, "pqr")]:
                reached = boards_by_cuts(board)
                for goal in list(reached)[::17]:
                    for wishes in wishes_of(goal):
                        self.told_right(board, wishes, fewest_of(reached, wishes))

    def test_wishes_for_all_are_a_goal(self):
        for frame in FRAMES:
            board, goal = mixed_board(frame, "abc")
            self.assertEqual(some_wish(board, goal)[:2], wish(board, goal)[:2])
            self.assertEqual(some_wish(board, (None,) * frame[0]), ("cuts", 0, ()))
            other = goal[:-1] + ("z" * frame[1],)
            self.assertEqual(some_wish(board, other), wish(board, other))

    def test_four_and_five_ribbons_of_twelve_places(self):
        for frame in [(4, 12), (5, 12)]:
            for letters in ("a", "abb", "abcde"):
                board, goal = mixed_board(frame, letters)
                for wishes in wishes_of(goal)[::5]:
                    self.told_right(board, wishes, plain_coins(board, wishes, (1,) * 12))
            board = unlike_board(frame)
            wishes = ("".join(board[place % frame[0]][place] for place in range(12)),) + (None,) * (frame[0] - 1)
            self.told_right(board, wishes, 11)

    def test_the_least_place_that_lacks(self):
        board = ("aab", "abb", "abc")
        self.assertEqual(some_wish(board, ("aab", None, "aac")), ("lacks", 1))
        self.assertEqual(some_wish(board, ("abc", None, "abc")), ("lacks", 2))
        self.assertEqual(some_wish(board, (None, None, "bbd")), ("lacks", 0))
        self.assertEqual(some_wish(board, ("abb", None, "abb"))[0], "cuts")


class ShowsSomeTest(RefusalCase):
    def test_all_rows_up_to_three_cuts(self):
        for board, wishes in [
            (("ab", "cd", "ef"), ("af", None, None)), (("ab", "cd", "ef"), (None, "af", "cb")),
            (("ab", "ab", "ba"), ("aa", None, "bb")), (("ab", "cd", "ef"), (None, None, None)),
        ]:
            fewest = fewest_of(boards_by_cuts(board), wishes)
            for length in range(4):
                for row in rows_of((3, 2), length):
                    for many in {length, fewest}:
                        thing = ("cuts", many, row)
                        self.assertIs(shows_some(board, wishes, thing), plainly_shown(board, wishes, fewest, thing))

    def test_longer_rows_and_other_numbers(self):
        _, many, row = some_wish(BOARD, WISHES)
        self.assertGreater(many, 0)
        longer = row + ((3, 0, 1), (3, 0, 1))
        for thing in [("cuts", many + 2, longer), ("cuts", many, longer), ("cuts", many + 1, row), ("cuts", -1, row)]:
            self.assertIs(shows_some(BOARD, WISHES, thing), False)
        for number in NO_NUMBERS:
            self.assertIs(shows_some(BOARD, (None,) * 3, ("cuts", number, ())), False)
        self.assertIs(shows_some(BOARD, (None,) * 3, ("cuts", 0, ())), True)
        self.assertIs(shows_some(BOARD, (None,) * 3, ("cuts", 1, ((0, 0, 1),))), False)

    def test_any_place_that_lacks(self):
        wishes = (None, "zbcz", "zbcd")
        for place in [*range(-5, 6), 9999999999999]:
            self.assertIs(shows_some(BOARD, wishes, ("lacks", place)), place in (0, 3))
            self.assertIs(shows_some(BOARD, WISHES, ("lacks", place)), False)
        # Truths stand for no places.
        self.assertIs(shows_some(("aa",), ("bb",), ("lacks", 1)), True)
        self.assertIs(shows_some(("aa",), ("bb",), ("lacks", True)), False)
        self.assertIs(shows_some(("aa",), ("bb",), ("lacks", False)), False)

    def test_of_anything(self):
        cases = [
            (BOARD, WISHES), (BOARD, (None,) * 3), (BOARD, (None, "zbcd", None)), (("ab", "cd"), ("ad", None)),
            (("a",), ("b",)),
        ]
        for board, wishes in cases:
            shown = some_wish(board, wishes)
            fewest = fewest_of(boards_by_cuts(board), wishes)
            self.assertTrue(plainly_shown(board, wishes, fewest, shown))
            for thing in [shown, *spoilt(shown)]:
                right = plainly_shown(board, wishes, fewest, thing)
                self.assertIs(shows_some(board, wishes, thing), right, thing)

    def test_other_words_and_lengths(self):
        row = ((1, 0, 1),)
        self.assertIs(shows_some(("ab", "cd"), ("ad", None), ("cuts", 1, row)), True)
        for thing in [
            ["cuts", 1, row], ("cuts", 1, list(row)), ("cuts", 1), ("cuts", 1, row, row), ("coins", 1, row), (1, row),
            ("cuts", True, row), ("cuts", 1, ((True, 0, 1),)), None, True, (), "cuts", {}, ("lacks", 0), ("lacks", 1),
        ]:
            self.assertIs(shows_some(("ab", "cd"), ("ad", None), thing), False)


def plainly_wishes(thing, frame):
    many, long = frame
    if type(thing) is not tuple or len(thing) != many:
        return False
    for text in thing:
        if text is not None and (type(text) is not str or len(text) != long):
            return False
    letters = "".join(text for text in thing if text is not None)
    return set(letters) <= set("abcdefghijklmnopqrstuvwxyz")


class WishesRefusalsTest(RefusalCase):
    def test_of_no_board(self):
        for thing in NO_BOARDS:
            for wishes in (WISHES, None, thing):
                self.refused(NoBoard, some_wish, thing, wishes)
                self.refused(NoBoard, shows_some, thing, wishes, ("lacks", 0))

    def test_of_no_wishes(self):
        for thing in NO_WISHES:
            self.refused(NoWishes, some_wish, BOARD, thing)
            for shown in [None, ("cuts", 0, ()), ("lacks", 0)]:
                self.refused(NoWishes, shows_some, BOARD, thing, shown)

    def test_of_anything_for_wishes(self):
        for thing in spoilt(WISHES):
            if plainly_wishes(thing, (3, 4)):
                fewest = fewest_of(boards_by_cuts(BOARD), thing)
                self.assertTrue(plainly_shown(BOARD, thing, fewest, some_wish(BOARD, thing)))
            else:
                self.refused(NoWishes, some_wish, BOARD, thing)
                self.refused(NoWishes, shows_some, BOARD, thing, ("lacks", 0))


def plain_pieces(effect, ribbon):
    """Tell the pieces of a ribbon, by the point's words."""
    comes_of = [line[ribbon] for line in effect]
    told = []
    for first, last in itertools.combinations_with_replacement(range(len(comes_of)), 2):
        within = set(comes_of[first:last + 1])
        longer = [comes_of[max(first - 1, 0):last + 1], comes_of[first:last + 2]]
        # A run is a longest one where neither next place, if there is one, is of this ribbon.
        at_ends = (first == 0 or len(set(longer[0])) > 1), (last == len(comes_of) - 1 or len(set(longer[1])) > 1)
        if len(within) == 1 and all(at_ends):
            told.append((comes_of[first], first, last))
    return tuple(told)


class PiecesTest(RefusalCase):
    def test_known_pieces(self):
        self.assertEqual(pieces((3, 2), EFFECT, 0), ((1, 0, 0), (2, 1, 1)))
        self.assertEqual(pieces((3, 3), ((0, 1, 2), (0, 2, 1), (0, 1, 2)), 0), ((0, 0, 2),))
        self.assertEqual(pieces((3, 3), ((0, 1, 2), (0, 2, 1), (0, 1, 2)), 1), ((1, 0, 0), (2, 1, 1), (1, 2, 2)))
        self.assertEqual(pieces((2, 4), ((1, 0), (1, 0), (0, 1), (0, 1)), 1), ((0, 0, 1), (1, 2, 3)))
        self.assertEqual(how_many_pieces((2, 4), ((1, 0), (1, 0), (0, 1), (0, 1))), 4)
        self.assertEqual(pieces((1, 1), ((0,),), 0), ((0, 0, 0),))

    def test_of_all_effects_of_small_frames(self):
        for frame in [(1, 3), (2, 4), (3, 2), (3, 3), (4, 2), (5, 1)]:
            for effect in effects_of(frame):
                told = [plain_pieces(effect, ribbon) for ribbon in range(frame[0])]
                for ribbon in range(frame[0]):
                    self.assertEqual(repr(pieces(frame, effect, ribbon)), repr(told[ribbon]))
                self.assertEqual(repr(how_many_pieces(frame, effect)), repr(sum(map(len, told))))

    def test_of_rows_of_each_frame(self):
        for frame in FRAMES:
            for row in some_rows(frame):
                effect = plain_effect(frame, row)
                told = [plain_pieces(effect, ribbon) for ribbon in range(frame[0])]
                self.assertEqual([pieces(frame, effect, ribbon) for ribbon in range(frame[0])], told)
                self.assertEqual(how_many_pieces(frame, effect), sum(map(len, told)))
            for effect in some_effects(frame):
                for ribbon in range(frame[0]):
                    self.assertEqual(pieces(frame, effect, ribbon), plain_pieces(effect, ribbon))

    def test_of_no_cuts_each_ribbon_is_one_piece(self):
        for frame in FRAMES:
            many, long = frame
            nothing = plain_effect(frame, ())
            self.assertEqual(how_many_pieces(frame, nothing), many)
            for ribbon in range(many):
                self.assertEqual(pieces(frame, nothing, ribbon), ((ribbon, 0, long - 1),))

    def test_one_ribbon_alone_takes_cuts_by_its_pieces(self):
        for frame in [(2, 5), (3, 4), (5, 12)]:
            board = unlike_board(frame)
            for effect in some_effects(frame, 3):
                for ribbon in range(frame[0]):
                    told = pieces(frame, effect, ribbon)
                    text = "".join(board[line[ribbon]][place] for place, line in enumerate(effect))
                    wishes = tuple(text if at == ribbon else None for at in range(frame[0]))
                    takes = len(told) - 1 + (told[0][0] != ribbon)
                    self.assertEqual(some_wish(board, wishes)[1], takes)

    def test_refusals_in_their_order(self):
        self.refused_without_frame(pieces, EFFECT, 0)
        self.refused_without_frame(how_many_pieces, EFFECT)
        for thing in NO_EFFECTS:
            self.refused(NoEffect, pieces, FRAME, thing, 0)
            self.refused(NoEffect, pieces, FRAME, thing, 3)
            self.refused(NoEffect, how_many_pieces, FRAME, thing)
        for thing in [*NO_NUMBERS, 3, 4]:
            self.refused(NoRibbon, pieces, FRAME, EFFECT, thing)
        self.refused(NoRibbon, pieces, (2, 4), plain_effect((2, 4), ()), 2)

    def test_of_anything_for_an_effect(self):
        for thing in spoilt(EFFECT):
            if plainly_effect(FRAME, thing):
                self.assertEqual(pieces(FRAME, thing, 2), plain_pieces(thing, 2))
            else:
                self.refused(NoEffect, pieces, FRAME, thing, 2)
                self.refused(NoEffect, how_many_pieces, FRAME, thing)


if __name__ == "__main__":
    unittest.main()
