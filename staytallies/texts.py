"""Machines as texts."""

from staytallies.errors import InvalidText
from staytallies.machines import LETTERS, MOST_GAIN, MOST_STANDS, Machine, check_machine


def write(machine):
    """The text of a machine: a line for the stands, one for the ends, and one for each step."""
    check_machine(machine)
    lines = [("stands", machine.stands), ("ends",) + machine.ends]
    lines += [("step",) + step for step in machine.steps]
    return "\n".join([" ".join([str(word) for word in line]) for line in lines])


def _number(word, least, most):
    """The number from least to most, no further from 0 than most, that is written as this word, None if none is."""
    digits = word.removeprefix("-")
    # Longer words are beyond most, and Python does not read words of very many digits.
    if not digits.isascii() or not digits.isdigit() or len(digits) > len(str(most)):
        return None
    number = int(word)
    return number if str(number) == word and least <= number <= most else None


class LineReader:
    """The words of one line of a text, taken one by one: the first one that cannot stand there is told."""

    def __init__(self, place, words):
        self._place = place
        self._words = [word for word in words.split(" ") if word != ""]
        self._taken = 0

    def is_over(self):
        """Tells whether all words are taken."""
        return self._taken == len(self._words)

    def fail(self):
        """Raises that the next word cannot stand there, or that there is none."""
        raise InvalidText(self._place, self._taken + 1)

    def take(self, words):
        """The next word, which is one of these."""
        if self.is_over() or self._words[self._taken] not in words:
            self.fail()
        self._taken += 1
        return self._words[self._taken - 1]

    def take_number(self, least, most):
        """The next word as a number from least to most."""
        number = None if self.is_over() else _number(self._words[self._taken], least, most)
        if number is None:
            self.fail()
        self._taken += 1
        return number

    def finish(self):
        """Raises that the next word cannot stand there, if there is one."""
        if not self.is_over():
            self.fail()


def _read_stands(line):
    line.take(("stands",))
    stands = line.take_number(1, MOST_STANDS)
    line.finish()
    return stands


def _read_ends(line, stands):
    line.take(("ends",))
    ends = []
    least = 0
    while not line.is_over():
        end = line.take_number(least, stands - 1)
        ends.append(end)
        least = end + 1
    return tuple(ends)


def _read_step(line, stands, ahead):
    """The step of a line, ahead being the stand and the letter from which the step in the line ahead begins."""
    least, last = ahead
    line.take(("step",))
    begun = line.take_number(least, stands - 1)
    letter = line.take([later for later in LETTERS if begun > least or later > last])
    end = line.take_number(0, stands - 1)
    gain = line.take_number(-MOST_GAIN, MOST_GAIN)
    line.finish()
    return (begun, letter, end, gain)


def read(text):
    """The machine of a text."""
    lines = [LineReader(index + 1, words) for index, words in enumerate(text.split("\n"))]
    if len(lines) == 1:
        # There must be a second line: it ends too early.
        lines.append(LineReader(2, ""))
    stands = _read_stands(lines[0])
    ends = _read_ends(lines[1], stands)
    steps = []
    ahead = (0, "")
    for line in lines[2:]:
        step = _read_step(line, stands, ahead)
        steps.append(step)
        ahead = step[:2]
    return Machine(stands, tuple(steps), ends)
