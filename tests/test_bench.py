"""[80]: a bench."""

import inspect
import random
import unittest

from tailswap.bench import Bench
from tailswap.errors import NoBoard, NoCut, NoPlace, NoRibbon, NoRow, NothingDone
from tailswap.order import exchanged, rising
from tests.plain import (
    FRAMES, THINGS, cuts_of, plain_behind, plain_effect, plain_fewest, plain_frame, plainly_board, plainly_row,
    some_boards, some_rows, spoilt, unlike_board,
)
from tests.refusals import NO_BOARDS, NO_NUMBERS, RefusalCase

BOARD = ("abcd", "efgh", "ijkl")
FRAME = (3, 4)
ROW = ((1, 0, 2), (2, 1, 2))
# None of these is a cut of FRAME.
NO_CUTS = [
    (4, 0, 1), (-1, 0, 1), (0, 0, 3), (0, 1, 3), (0, -1, 1), (0, 1, 0), (0, 2, 0), (3, 2, 1), (0, 0, 0), (0, 2, 2),
    (True, 0, 1), (False, 0, 1), (0, False, 1), (0, 0, True), (None, 0, 1), (0, None, 1), (0, 0, None), ("0", 0, 1),
    (0, "0", 1), (0, 0, "1"), ((0,), 0, 1), ([0], 0, 1), (0, 0, (1,)), (0, 0, {}), (9999999999999, 0, 1),
    (0, 0, 9999999999999), (0, -9999999999999, 1), ((0, 0, 1), 0, 1),
]


def told_by(bench):
    """Tell all that a bench tells of itself."""
    many, long = plain_frame(bench.board())
    beads = [bench.whose(ribbon, place) for ribbon in range(many) for place in range(long)]
    return repr((bench.board(), bench.row(), beads, bench.spare(), len(bench), repr(bench)))


class BenchCase(RefusalCase):
    def is_as(self, bench, board, deeds):
        """Hold a bench against its board at first and the deeds that stand."""
        frame = plain_frame(board)
        row = tuple(cut for deed in deeds for cut in deed)
        effect = plain_effect(frame, row)
        self.assertEqual(repr(bench.board()), repr(plain_behind(board, row)))
        self.assertEqual(repr(bench.row()), repr(row))
        self.assertEqual(repr(len(bench)), repr(len(deeds)))
        self.assertEqual(repr(bench.spare()), repr(len(row) - plain_fewest(effect)))
        self.assertEqual(repr(bench), f"Bench({frame[0]} ribbons, {len(row)} cuts)")
        for place, line in enumerate(effect):
            self.assertEqual([repr(bench.whose(ribbon, place)) for ribbon in range(frame[0])], list(map(repr, line)))

    def refused_and_as_it_was(self, bench, error, function, *told):
        before = told_by(bench)
        self.refused(error, function, *told)
        self.assertEqual(told_by(bench), before)


class DeedsTest(BenchCase):
    def test_at_first(self):
        for frame in FRAMES:
            for board in some_boards(frame):
                self.is_as(Bench(board), board, [])

    def test_cut_play_and_undo_deed_by_deed(self):
        bench = Bench(BOARD)
        self.assertIs(bench.cut(1, 0, 2), None)
        self.assertEqual(bench.board(), ("ajkl", "efgh", "ibcd"))
        self.assertIs(bench.play(((2, 1, 2), (0, 0, 1))), None)
        self.is_as(bench, BOARD, [((1, 0, 2),), ((2, 1, 2), (0, 0, 1))])
        self.assertIs(bench.play(()), None)
        self.is_as(bench, BOARD, [((1, 0, 2),), ((2, 1, 2), (0, 0, 1)), ()])
        self.assertIs(bench.cut(3, 1, 2), None)
        self.is_as(bench, BOARD, [((1, 0, 2),), ((2, 1, 2), (0, 0, 1)), (), ((3, 1, 2),)])
        for deeds in [
            [((1, 0, 2),), ((2, 1, 2), (0, 0, 1)), ()], [((1, 0, 2),), ((2, 1, 2), (0, 0, 1))], [((1, 0, 2),)], [],
        ]:
            self.assertIs(bench.undo(), None)
            self.is_as(bench, BOARD, deeds)
        self.refused_and_as_it_was(bench, NothingDone, bench.undo)
        bench.cut(0, 0, 1)
        self.is_as(bench, BOARD, [((0, 0, 1),)])

    def test_whatever_deeds(self):
        for frame in FRAMES:
            chooser = random.Random(f"{frame} bench")
            for board in some_boards(frame)[:2]:
                bench, deeds = Bench(board), []
                for row in some_rows(frame, (0, 1, 2, 3, 5, 1, 0, 9)):
                    deed = chooser.choice(("cut", "play", "play", "undo"))
                    if deed == "undo" and deeds:
                        bench.undo()
                        deeds.pop()
                    elif deed == "cut" and cuts_of(frame):
                        cut = chooser.choice(cuts_of(frame))
                        bench.cut(*cut)
                        deeds.append((cut,))
                    else:
                        bench.play(row)
                        deeds.append(row)
                self.is_as(bench, board, deeds)

    def test_each_cut_of_each_frame(self):
        for frame in FRAMES:
            board = unlike_board(frame)
            bench = Bench(board)
            for cut in cuts_of(frame):
                bench.cut(*cut)
                self.assertEqual(bench.board(), plain_behind(board, (cut,)))
                self.assertEqual(bench.row(), (cut,))
                bench.undo()
            self.is_as(bench, board, [])

    def test_rows_of_sixty_cuts_and_more_together(self):
        rows = some_rows((5, 12), (60, 60, 48))
        bench = Bench(unlike_board((5, 12)))
        for row in rows:
            bench.play(row)
        self.is_as(bench, unlike_board((5, 12)), rows)
        other = Bench(unlike_board((5, 12)))
        other.play(bench.row())
        self.is_as(other, unlike_board((5, 12)), [sum(rows, ())])
        self.assertEqual(bench, other)

    def test_by_names(self):
        bench = Bench(board=BOARD)
        bench.cut(other=2, one=0, place=1)
        bench.play(row=((2, 1, 2),))
        self.is_as(bench, BOARD, [((1, 0, 2),), ((2, 1, 2),)])
        self.assertEqual(bench.whose(place=1, ribbon=0), 2)

    def test_what_was_told_earlier_stays_as_it_was(self):
        bench = Bench(BOARD)
        bench.cut(1, 0, 2)
        board, row = bench.board(), bench.row()
        bench.cut(0, 0, 1)
        bench.undo()
        bench.undo()
        self.assertEqual(board, ("ajkl", "efgh", "ibcd"))
        self.assertEqual(row, ((1, 0, 2),))
        self.assertIs(type(board), tuple)
        self.assertIs(type(row), tuple)

    def test_what_is_handed_in_stays_as_it_was(self):
        board, row = ("abcd", "efgh", "ijkl"), ((1, 0, 2), (2, 1, 2))
        bench = Bench(board)
        bench.play(row)
        bench.cut(0, 0, 1)
        bench.undo()
        self.assertEqual((board, row), (BOARD, ROW))

    def test_asking_is_no_deed(self):
        bench = Bench(BOARD)
        bench.play(ROW)
        self.assertEqual(told_by(bench), told_by(bench))
        self.assertEqual(bench, bench)
        self.is_as(bench, BOARD, [ROW])

    def test_whose_by_the_bead(self):
        bench = Bench(BOARD)
        bench.play(ROW)
        for ribbon, text in enumerate(bench.board()):
            for place, letter in enumerate(text):
                self.assertIn(letter, BOARD[bench.whose(ribbon, place)][place])

    def test_spare(self):
        cuts = ((1, 0, 2), (2, 1, 2), (1, 0, 2), (1, 0, 2), (0, 0, 1), (2, 0, 1), (1, 1, 2))
        bench = Bench(BOARD)
        told = []
        for cut in cuts:
            bench.cut(*cut)
            told.append(bench.spare())
        self.assertEqual(told, [many - plain_fewest(plain_effect(FRAME, cuts[:many])) for many in range(1, 8)])
        self.assertGreater(max(told), 0)


class RefusalsTest(BenchCase):
    def test_of_no_board(self):
        for thing in [*NO_BOARDS, *THINGS]:
            if not plainly_board(thing):
                self.refused(NoBoard, Bench, thing)

    def test_of_no_cut(self):
        bench = Bench(BOARD)
        bench.play(ROW)
        for thing in NO_CUTS:
            self.refused_and_as_it_was(bench, NoCut, bench.cut, *thing)
        for thing in THINGS:
            if repr(thing) not in ("0", "1", "2", "3"):
                self.refused(NoCut, bench.cut, thing, 0, 1)
                self.refused(NoCut, bench.cut, 0, thing, 2)
                self.refused(NoCut, bench.cut, 0, 0, thing)
                self.refused(NoCut, bench.cut, thing, thing, thing)
        self.is_as(bench, BOARD, [ROW])

    def test_one_ribbon_has_no_cuts(self):
        for frame in [(1, 1), (1, 12)]:
            bench = Bench(unlike_board(frame))
            for cut in [(0, 0, 0), (0, 0, 1), (0, 1, 0), (1, 0, 1)]:
                self.refused_and_as_it_was(bench, NoCut, bench.cut, *cut)

    def test_of_no_row(self):
        bench = Bench(BOARD)
        bench.cut(0, 1, 2)
        for thing in spoilt(ROW):
            if not plainly_row(FRAME, thing):
                self.refused(NoRow, bench.play, thing)
        for cut in NO_CUTS:
            self.refused_and_as_it_was(bench, NoRow, bench.play, (cut,))
            # Not even the cuts ahead of the one that is none are done.
            self.refused_and_as_it_was(bench, NoRow, bench.play, ROW + (cut,))
        self.is_as(bench, BOARD, [((0, 1, 2),)])

    def test_of_nothing_done(self):
        for board in [BOARD, ("a",)]:
            bench = Bench(board)
            self.refused_and_as_it_was(bench, NothingDone, bench.undo)
            bench.play(())
            bench.undo()
            self.refused_and_as_it_was(bench, NothingDone, bench.undo)

    def test_of_no_ribbon_then_no_place(self):
        bench = Bench(BOARD)
        bench.play(ROW)
        for thing in [*NO_NUMBERS, 3, 4]:
            self.refused_and_as_it_was(bench, NoRibbon, bench.whose, thing, 0)
            self.refused_and_as_it_was(bench, NoRibbon, bench.whose, thing, 4)
            self.refused_and_as_it_was(bench, NoRibbon, bench.whose, thing, thing)
        for thing in [*NO_NUMBERS, 4, 5]:
            self.refused_and_as_it_was(bench, NoPlace, bench.whose, 0, thing)
            self.refused_and_as_it_was(bench, NoPlace, bench.whose, 2, thing)
        self.assertEqual((bench.whose(2, 3), bench.whose(0, 0)), (1, 0))


class TwinTest(BenchCase):
    def test_it_is_as_the_bench(self):
        bench = Bench(BOARD)
        for deed in [(), ROW, ((0, 0, 1),)]:
            bench.play(deed)
        twin = bench.twin()
        self.assertIs(type(twin), Bench)
        self.assertIsNot(twin, bench)
        self.assertEqual(twin, bench)
        self.is_as(twin, BOARD, [(), ROW, ((0, 0, 1),)])

    def test_each_goes_on_by_itself(self):
        bench = Bench(BOARD)
        bench.play(ROW)
        bench.cut(0, 0, 1)
        twin = bench.twin()
        twin.cut(3, 1, 2)
        self.is_as(bench, BOARD, [ROW, ((0, 0, 1),)])
        self.is_as(twin, BOARD, [ROW, ((0, 0, 1),), ((3, 1, 2),)])
        bench.undo()
        bench.undo()
        self.is_as(bench, BOARD, [])
        self.is_as(twin, BOARD, [ROW, ((0, 0, 1),), ((3, 1, 2),)])
        for deeds in [[ROW, ((0, 0, 1),)], [ROW], []]:
            twin.undo()
            self.is_as(twin, BOARD, deeds)
        self.refused(NothingDone, twin.undo)
        self.assertEqual(bench, twin)

    def test_of_a_twin_and_of_nothing_done(self):
        bench = Bench(BOARD)
        self.refused(NothingDone, bench.twin().undo)
        bench.play(ROW)
        second = bench.twin().twin()
        second.undo()
        self.is_as(second, BOARD, [])
        self.is_as(bench, BOARD, [ROW])


class LikenessTest(BenchCase):
    def alike(self, one, other):
        self.assertIs(one == other, True)
        self.assertIs(other == one, True)
        self.assertIs(one != other, False)
        self.assertIs(other != one, False)

    def unlike(self, one, other):
        self.assertIs(one == other, False)
        self.assertIs(other == one, False)
        self.assertIs(one != other, True)
        self.assertIs(other != one, True)

    def bench(self, board, *deeds):
        bench = Bench(board)
        for deed in deeds:
            bench.play(deed)
        return bench

    def test_the_same_effect_otherwise_come_by(self):
        falling = exchanged(FRAME, ROW, 0)
        self.alike(self.bench(BOARD, ROW), self.bench(BOARD, falling))
        self.alike(self.bench(BOARD, ROW), self.bench(BOARD, ROW[:1], (), ROW[1:]))
        self.alike(self.bench(BOARD), self.bench(BOARD, ROW, ROW[::-1]))
        self.alike(self.bench(BOARD), self.bench(BOARD, ((0, 0, 1), (0, 0, 1))))
        for frame in FRAMES:
            board = some_boards(frame)[1]
            for row in some_rows(frame):
                self.alike(self.bench(board, row), self.bench(board, rising(frame, row)))

    def test_of_all_pairs_of_rows(self):
        rows = some_rows((2, 2), (0, 1, 1, 1, 2, 2, 2, 2, 3, 3, 3, 3, 4, 4))
        for one in rows:
            for other in rows:
                hold = self.alike if plain_effect((2, 2), one) == plain_effect((2, 2), other) else self.unlike
                hold(self.bench(("ab", "cd"), one), self.bench(("ab", "cd"), other))

    def test_like_beads_but_another_effect(self):
        self.unlike(self.bench(("aa", "aa")), self.bench(("aa", "aa"), ((0, 0, 1),)))
        self.unlike(self.bench(("ab", "ab"), ((1, 0, 1),)), self.bench(("ab", "ab"), ((0, 0, 1),)))

    def test_another_board_at_first(self):
        self.unlike(Bench(BOARD), Bench(("abcd", "efgh", "ijka")))
        self.unlike(Bench(BOARD), Bench(BOARD[:2]))
        self.unlike(Bench(BOARD), Bench(("abc", "efg", "ijk")))
        # The boards as they are now are the same, but not those at first.
        self.unlike(self.bench(("ab", "cd"), ((0, 0, 1),)), Bench(("cd", "ab")))
        self.unlike(Bench(("ab", "cd")), Bench(("ab", "cd", "ef")))

    def test_things_of_other_kinds(self):
        bench = self.bench(BOARD, ROW)
        for thing in [*THINGS, BOARD, ROW, bench.board(), repr(bench), object(), Bench, (bench,), [bench]]:
            self.unlike(bench, thing)
            self.unlike(Bench(("a",)), thing)

    def test_it_follows_the_deeds(self):
        one, other = Bench(BOARD), Bench(BOARD)
        self.alike(one, other)
        one.cut(0, 0, 1)
        self.unlike(one, other)
        other.play(((0, 0, 1),))
        self.alike(one, other)
        other.undo()
        self.unlike(one, other)
        one.undo()
        self.alike(one, other)


class FormTest(unittest.TestCase):
    def test_each_method_stands_in_the_class_itself(self):
        names = {
            "cut": ["place", "one", "other"], "play": ["row"], "undo": [], "board": [], "row": [],
            "whose": ["ribbon", "place"], "spare": [], "twin": [], "__len__": [], "__eq__": ["other"], "__repr__": [],
        }
        for name, told in names.items():
            method = vars(Bench)[name]
            self.assertEqual(list(inspect.signature(method).parameters), ["self", *told])
        self.assertEqual(list(inspect.signature(Bench).parameters), ["board"])
        self.assertEqual(Bench.__module__, "tailswap.bench")

    def test_repr_whatever_the_numbers(self):
        bench = Bench(("a",))
        self.assertEqual(repr(bench), "Bench(1 ribbons, 0 cuts)")
        bench.play(())
        self.assertEqual(repr(bench), "Bench(1 ribbons, 0 cuts)")
        bench = Bench(BOARD)
        bench.cut(0, 0, 1)
        self.assertEqual(repr(bench), "Bench(3 ribbons, 1 cuts)")
        bench.play(ROW * 30)
        self.assertEqual(repr(bench), "Bench(3 ribbons, 61 cuts)")
        self.assertEqual(str(bench), "Bench(3 ribbons, 61 cuts)")


if __name__ == "__main__":
    unittest.main()
