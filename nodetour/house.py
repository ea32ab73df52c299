"""A house: it keeps a board, does deeds, and shows what stands."""

from nodetour.kept import all_served, dark_now, done, further, how_many_further, idle, new_board, redone, undone
from nodetour.stalls import answer_for


class House:
    """A house with a board; what it tells of it stays as it is, whatever is done then."""

    def __init__(self, room):
        self._board = new_board(room)

    def board(self):
        """Return the board that stands."""
        return dict(self._board)

    def do(self, deed):
        """Do a deed, and return how many the log has then; BadDeed() if it is none."""
        self._board = done(self._board, deed)
        return len(self.deeds())

    def undo(self):
        """Take the last deed back, and return how many the log has then; NothingDone() without one."""
        self._board = undone(self._board)
        return len(self.deeds())

    def redo(self):
        """Do again what was taken back last, and return how many deeds the log has then; NothingDone() without one."""
        self._board = redone(self._board)
        return len(self.deeds())

    def deeds(self):
        """Return the tuple of the deeds done."""
        return self._board["log"]

    def twin(self):
        """Return a house that stands alike, and goes its own way."""
        other = House(self._board["first"])
        other._board = self.board()
        return other

    def serve(self):
        """Set the further stalls that are needed, and return how many they were."""
        stalls = further(self._board)[0]
        for stall in stalls:
            self.do(("set", stall))
        return len(stalls)

    def thin(self):
        """Take the least idle stall, again and again till none is idle, and return how many they were."""
        many = 0
        spare = self.spare()
        while spare != ():
            self.do(("take", spare[0]))
            many += 1
            spare = self.spare()
        return many

    def room(self):
        """Return the room."""
        return self._board["room"]

    def stalls(self):
        """Return the lot of the stalls."""
        return self._board["stalls"]

    def dark(self):
        """Return the lot of the cells that no stall serves."""
        return dark_now(self._board)

    def served(self):
        """Return whether each cell is served."""
        return all_served(self._board)

    def missing(self):
        """Return how many further stalls at least are needed."""
        return how_many_further(self._board)

    def spare(self):
        """Return the lot of the stalls each of which could go by itself."""
        return idle(self._board)

    def answer(self):
        """Return an answer for the room, whatever stalls stand."""
        return answer_for(self.room(), self.room())
