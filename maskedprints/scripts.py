"""Scripts, texts whose rows are executed in a darkroom."""

from maskedprints.basics import is_number
from maskedprints.errors import ExecutionFailed, InvalidDeed, ScriptError, TooLong
from maskedprints.notation import deed_of, number_of, worded_rows
from maskedprints.rooms import Darkroom

MOST_ROWS = 60
MOST_DEPTH = 4
LONGEST_RUN = 300
# How many numbers the rows of each first word have; behind that of an exposure any more may stand, the covered cells.
NUMBERS = {"expose": 1, "draw": 2, "flip": 0, "fresh": 0, "show": 0, "repeat": 1, "when": 2, "end": 0}


def run_script(negative, steps, text):
    """The darkroom behind a script, and the list of all lines that the script writes."""
    room = Darkroom(negative, steps)
    rows = worded_rows(text)
    run = Run(room, rows, block_ends(rows))
    run.run_rows(0, len(rows))
    return (room, run.output)


class Run:
    """One execution of a script in a darkroom."""

    def __init__(self, room, rows, ends):
        self.room = room
        self.rows = rows
        self.ends = ends
        self.output = []
        self.count_made = 0

    def run_rows(self, first, end):
        """Execute all rows from a first one on that stand ahead of an end."""
        row = first
        while row < end:
            self.make_step()
            words = self.rows[row]
            if words[0] == "repeat":
                for again in range(int(words[1])):
                    self.make_step()
                    self.run_rows(row + 1, self.ends[row])
            elif words[0] == "when":
                if self.has_tone(row, int(words[1]), words[2]):
                    self.run_rows(row + 1, self.ends[row])
            else:
                self.run_row(row, words)
            row = self.ends.get(row, row) + 1

    def make_step(self):
        """Count a step, or raise TooLong if there must be no more."""
        if self.count_made == LONGEST_RUN:
            raise TooLong()
        self.count_made += 1

    def has_tone(self, row, cell, figure):
        """Whether a cell has the tone of a figure."""
        tones = self.room.print_now
        if not is_number(cell, 0, len(tones) - 1):
            raise ExecutionFailed(row)
        return tones[cell] == figure

    def run_row(self, row, words):
        """Execute a row that is no block."""
        if words[0] == "show":
            self.output.append(self.room.print_now)
        elif words[0] == "fresh":
            self.output.append(self.room.fresh())
        else:
            self.do_deed(row, deed_of(words))

    def do_deed(self, row, deed):
        """Do the deed of a row."""
        try:
            self.room.apply_all([deed])
        except InvalidDeed:
            raise ExecutionFailed(row) from None


def block_ends(rows):
    """For each row that begins a block, the row that ends it; raise ScriptError if the rows are no script."""
    ends = {}
    begun = []
    for row, words in enumerate(rows):
        if row == MOST_ROWS or not is_row(words):
            raise ScriptError(row)
        if words[0] in ("repeat", "when"):
            if len(begun) == MOST_DEPTH:
                raise ScriptError(row)
            begun.append(row)
        elif words[0] == "end":
            if not begun:
                raise ScriptError(row)
            ends[begun.pop()] = row
    if begun:
        raise ScriptError(len(rows))
    return ends


def is_row(words):
    """Whether it is a row of a script by its words."""
    if words[0] not in NUMBERS or None in [number_of(word) for word in words[1:]]:
        return False
    many = len(words) - 1
    wanted = NUMBERS[words[0]]
    return many == wanted or (words[0] == "expose" and many > wanted)
