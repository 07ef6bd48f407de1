"""The desk, at which a program is turned again and again."""

from loopturn.errors import NoFit, TooMany
from loopturn.orders import turned

MOST_TURNINGS = 12


class Desk:
    """A program, and the turnings of it that stand."""

    def __init__(self, program):
        # The program ahead of each turning that stands, and behind it the program now. All but these lists is tuples,
        # so a copy of a list is enough to keep it.
        self.programs = [list(program)]
        self.turnings = []

    def turn(self, turning):
        """The program now, with the turning let by; or TooMany, NoFit or OutOfOrder, and nothing changes."""
        if len(self.turnings) >= MOST_TURNINGS:
            raise TooMany("twelve turnings stand already")
        new = turned(self.programs[-1], turning)
        self.programs.append(new)
        self.turnings.append(turning)
        return self.now()

    def undo(self):
        """The program now, with the last turning taken back; or NoFit where none stands."""
        if not self.turnings:
            raise NoFit("no turning stands")
        self.programs.pop()
        self.turnings.pop()
        return self.now()

    def now(self):
        """The program now."""
        return list(self.programs[-1])

    def now_of(self, doing):
        """For a doing of the first program the one of the program now."""
        for program, turning in zip(self.programs, self.turnings):
            doing = turning.there(program, doing)
        return doing

    def old_of(self, doing):
        """For a doing of the program now the one of the first program."""
        for at in reversed(range(len(self.turnings))):
            turning = self.turnings[at]
            doing = turning.back(self.programs[at], doing)
        return doing

    def many(self):
        """How many turnings stand."""
        return len(self.turnings)

    def told(self):
        """A list of the texts of the turnings that stand, the oldest first."""
        return [turning.words() for turning in self.turnings]
