"""The errors that the package raises."""


class PrintError(ValueError):
    """The base class of all errors that the package raises."""


class InvalidNegative(PrintError):
    """A parameter of a negative is wrong; `part` is the name of the first one."""

    def __init__(self, part):
        super().__init__(f"no negative has this {part}")
        self.part = part


class InvalidSize(PrintError):
    """No negative has such a width and height."""


class InvalidRecipe(PrintError):
    """`index` is that of the first item of a recipe that is no deed, or of the ninth."""

    def __init__(self, index):
        super().__init__(f"a recipe has no such deed at index {index}")
        self.index = index


class InvalidSteps(PrintError):
    """No paper has such steps."""


class UnknownCell(PrintError):
    """There is no such cell."""


class InvalidNumber(PrintError):
    """A number is out of its range, or is a boolean."""


class TooMany(PrintError):
    """There are more cells than can be looked through."""


class InvalidTones(PrintError):
    """A text does not tell the tones of all cells."""


class InvalidPapers(PrintError):
    """`index` is that of the first paper that has no steps, or that is one too many."""

    def __init__(self, index):
        super().__init__(f"no such paper can stand at index {index}")
        self.index = index


class UnlikeSizes(PrintError):
    """Two negatives are not as large."""


class InvalidMask(PrintError):
    """A mask is no ascending tuple of cells."""


class InvalidDeed(PrintError):
    """There is no such deed."""


class InvalidName(PrintError):
    """Nothing can be kept under such a name."""


class UnknownKept(PrintError):
    """Nothing is kept under a name."""


class InvalidOperation(PrintError):
    """`index` is that of the first item of a list that is no operation."""

    def __init__(self, index):
        super().__init__(f"there is no such operation as at index {index}")
        self.index = index


class NoNegative(PrintError):
    """No negative would be possible."""


class InvalidLine(PrintError):
    """`row` and `word` tell where the text of a recipe is wrong first."""

    def __init__(self, row, word):
        super().__init__(f"the text of the recipe is wrong in row {row} at word {word}")
        self.row = row
        self.word = word


class DecodeError(PrintError):
    """`offset` is that of the first item of a code that is wrong, or missing."""

    def __init__(self, offset):
        super().__init__(f"the code is wrong at offset {offset}")
        self.offset = offset


class ScriptError(PrintError):
    """`row` is that of the first row of a script that is wrong, or missing."""

    def __init__(self, row):
        super().__init__(f"the script is wrong in row {row}")
        self.row = row


class ExecutionFailed(PrintError):
    """`row` is that of the row of a script that failed when it was executed."""

    def __init__(self, row):
        super().__init__(f"the script failed in row {row}")
        self.row = row


class TooLong(PrintError):
    """A script takes too many steps."""
