"""A meter that reads letter by letter."""

from staytallies.errors import BadLetter
from staytallies.machines import check_machine, moves_of


class Meter:
    """A machine on its way along a row, from the stand 0 with the tally 0 on."""

    def __init__(self, machine):
        check_machine(machine)
        self._machine = machine
        self._moves = moves_of(machine)
        self._row = ""
        # Stand, tally and span behind each beginning of the row, so that letters can be taken back.
        self._places = [(0, 0, (0, 0))]

    @property
    def machine(self):
        return self._machine

    @property
    def row(self):
        return self._row

    @property
    def stand(self):
        return self._places[-1][0]

    @property
    def tally(self):
        return self._places[-1][1]

    @property
    def span(self):
        return self._places[-1][2]

    def read(self, letter):
        """Takes a step and tells the tally behind it."""
        stand, tally, span = self._places[-1]
        if not isinstance(letter, str) or (stand, letter) not in self._moves:
            raise BadLetter("not a letter with a step from the stand")
        end, gain = self._moves[(stand, letter)]
        tally += gain
        self._row += letter
        self._places.append((end, tally, (min(span[0], tally), max(span[1], tally))))
        return tally

    def can(self):
        """The string of the letters that have a step from the stand, ascending."""
        # The steps of a machine ascend by letters, and so do these pairs.
        return "".join([letter for begun, letter in self._moves if begun == self.stand])

    def undo(self):
        """Takes the last letter back, and tells whether there was one."""
        if self._row == "":
            return False
        self._row = self._row[:-1]
        self._places.pop()
        return True

    def copy(self):
        """An independent meter that stands as this one."""
        twin = Meter(self._machine)
        twin._row = self._row
        twin._places = list(self._places)
        return twin

    def __len__(self):
        return len(self._row)
