"""A bench: a board, the cuts that were done at it, and what becomes of both."""

from tailswap.boards import frame_of, need_place, need_ribbon
from tailswap.errors import NoCut, NothingDone
from tailswap.joints import fewest
from tailswap.rows import behind, does, is_cut, need_row


class Bench:
    """A board at first, and the deeds that stand, each a row of cuts."""

    def __init__(self, board):
        self._frame = frame_of(board)
        self._first = board
        self._deeds = []

    def cut(self, place, one, other):
        """Do one cut."""
        if not is_cut(self._frame, (place, one, other)):
            raise NoCut()
        self._deeds.append(((place, one, other),))

    def play(self, row):
        """Do a row of cuts, as one deed."""
        need_row(self._frame, row)
        self._deeds.append(row)

    def undo(self):
        """Undo the last deed that stands."""
        if not self._deeds:
            raise NothingDone()
        self._deeds.pop()

    def board(self):
        """Tell the board as it is now."""
        return behind(self._first, self.row())

    def row(self):
        """Tell all cuts that stand, one behind the other."""
        return tuple([cut for deed in self._deeds for cut in deed])

    def _effect(self):
        """Tell the effect of all cuts that stand."""
        return does(self._frame, self.row())

    def whose(self, ribbon, place):
        """Tell the ribbon whose bead at first lies there now."""
        need_ribbon(self._frame, ribbon)
        need_place(self._frame, place)
        return self._effect()[place][ribbon]

    def spare(self):
        """Tell by how many cuts those that stand are more than their effect takes."""
        return len(self.row()) - fewest(self._frame, self._effect())

    def twin(self):
        """Tell another bench with the same board at first and the same deeds, which goes on by itself."""
        other = Bench(self._first)
        other._deeds = list(self._deeds)
        return other

    def __len__(self):
        return len(self._deeds)

    def __eq__(self, other):
        return isinstance(other, Bench) and self._first == other._first and self._effect() == other._effect()

    def __repr__(self):
        return f"Bench({len(self._first)} ribbons, {len(self.row())} cuts)"
