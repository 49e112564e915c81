"""A darkroom, in which a paper lies under a negative, and trials that leave it as it was."""

from maskedprints.basics import UNITS, check_steps, is_deed, mirrored, ticks_of, tone_of
from maskedprints.errors import InvalidDeed, InvalidName, InvalidOperation, UnknownKept

LETTERS = "abcdefghijklmnopqrstuvwxyz"
LONGEST_NAME = 8
# How many arguments each method takes that an operation can name.
ARGUMENTS = {"expose": 2, "draw": 2, "flip": 0, "fresh": 0, "keep_as": 1, "fetch": 1, "undo": 0, "redo": 0}


class Scene:
    """All that there is in a darkroom at one time; it is never modified, so that many can share its parts."""

    def __init__(self, light, turned, made, kept):
        self.light = light
        self.turned = turned
        self.made = made
        self.kept = kept


class Trial:
    """A block at whose end a darkroom is as it was at its beginning, unless it was held."""

    def __init__(self, room):
        self.room = room

    def __enter__(self):
        self.held = None
        self.now = self.room.now
        self.done = list(self.room.done)
        self.undone = list(self.room.undone)
        return self

    def __exit__(self, kind, value, trace):
        if self.held is None:
            self.room.now = self.now
            self.room.done = self.done
            self.room.undone = self.undone

    def hold(self):
        """Let the darkroom stay as it is at the end of the block."""
        self.held = True


class Darkroom:
    """A darkroom, in which a paper lies under a negative."""

    def __init__(self, negative, steps):
        check_steps(steps)
        self.columns = negative.width
        self.figures = negative.densities
        self.paper_steps = steps
        self.now = Scene((0,) * len(negative), False, (), {})
        # Pairs of an operation and the scene ahead of it, and pairs of an operation and the scene behind it.
        self.done = []
        self.undone = []

    @property
    def print_now(self):
        """The text of the tones of all cells of the paper."""
        return "".join([str(tone_of(light, self.paper_steps)) for light in self.now.light])

    @property
    def lights_now(self):
        """The tuple of the units of light of all cells of the paper."""
        return self.now.light

    @property
    def is_over(self):
        """Whether the negative is turned over."""
        return self.now.turned

    @property
    def prints_made(self):
        """The list of all prints that fresh papers replaced."""
        return list(self.now.made)

    @property
    def kept_under(self):
        """The ascending list of all names under which something is kept."""
        return sorted(self.now.kept)

    @property
    def history(self):
        """The list of all operations in effect, in order."""
        return [operation for operation, scene in self.done]

    @classmethod
    def replay(cls, negative, steps, operations):
        """A darkroom after a list of operations."""
        room = cls(negative, steps)
        room.apply_all(operations)
        return room

    def expose(self, time, covered):
        """Let the lamp shine on all cells that are not covered; how many cells have another tone then."""
        return self.shine(("expose", time, covered))

    def draw(self, time, pace):
        """Let the lamp shine while a mask is drawn away; how many cells have another tone then."""
        return self.shine(("draw", time, pace))

    def flip(self):
        """Turn the negative over; whether it is turned over then."""
        turned = not self.now.turned
        self.change(("flip",), Scene(self.now.light, turned, self.now.made, self.now.kept))
        return turned

    def fresh(self):
        """Lay a fresh paper; the print that lay there."""
        replaced = self.print_now
        light = (0,) * len(self.now.light)
        self.change(("fresh",), Scene(light, self.now.turned, self.now.made + (replaced,), self.now.kept))
        return replaced

    def keep_as(self, name):
        """Keep all that there is under a name; whether something was kept under it before."""
        if not is_name(name):
            raise InvalidName()
        was_kept = name in self.now.kept
        kept = {**self.now.kept, name: self.now}
        self.change(("keep_as", name), Scene(self.now.light, self.now.turned, self.now.made, kept))
        return was_kept

    def fetch(self, name):
        """Return to what was kept under a name last; the print that lies there then."""
        if not is_name(name) or name not in self.now.kept:
            raise UnknownKept()
        kept = self.now.kept[name]
        self.change(("fetch", name), Scene(kept.light, kept.turned, kept.made, self.now.kept))
        return self.print_now

    def undo(self):
        """Undo the last operation in effect; whether there was one."""
        if not self.done:
            return False
        operation, scene = self.done.pop()
        self.undone.append((operation, self.now))
        self.now = scene
        return True

    def redo(self):
        """Execute the operation that was undone last once more; whether there was one."""
        if not self.undone:
            return False
        operation, scene = self.undone.pop()
        self.done.append((operation, self.now))
        self.now = scene
        return True

    def apply_all(self, operations):
        """Execute a list of operations, all or none; the list of their results."""
        check_operations(operations)
        results = []
        with Trial(self) as trial:
            for operation in operations:
                results.append(self.perform(operation))
            trial.hold()
        return results

    def tried_out(self, operations, keep):
        """Execute a list of operations, and keep what they change if this is wanted; the list of their results."""
        with Trial(self) as trial:
            results = self.apply_all(operations)
            if keep:
                trial.hold()
        return results

    def perform(self, operation):
        """Execute one operation; its result."""
        name = operation[0]
        if name == "expose":
            return self.expose(operation[1], operation[2])
        if name == "draw":
            return self.draw(operation[1], operation[2])
        if name == "flip":
            return self.flip()
        if name == "fresh":
            return self.fresh()
        if name == "keep_as":
            return self.keep_as(operation[1])
        if name == "fetch":
            return self.fetch(operation[1])
        if name == "undo":
            return self.undo()
        return self.redo()

    def shine(self, deed):
        """Do an exposure or a draw; how many cells have another tone then."""
        if not is_deed(deed, len(self.now.light)):
            raise InvalidDeed()
        earlier = self.print_now
        light = tuple([many + self.light_from(deed, cell) for cell, many in enumerate(self.now.light)])
        self.change(deed, Scene(light, self.now.turned, self.now.made, self.now.kept))
        return len([tone for tone, was in zip(self.print_now, earlier) if tone != was])

    def light_from(self, deed, cell):
        """How many units of light a cell gets by an exposure or a draw as the negative lies now."""
        above = mirrored(cell, self.columns) if self.now.turned else cell
        return ticks_of(deed, self.columns, cell) * UNITS[int(self.figures[above])]

    def change(self, operation, scene):
        """Let an operation lead to a scene; what was undone cannot be done once more then."""
        self.done.append((operation, self.now))
        self.undone = []
        self.now = scene


def is_name(name):
    """Whether something can be kept under such a name."""
    return isinstance(name, str) and 1 <= len(name) <= LONGEST_NAME and all([letter in LETTERS for letter in name])


def is_operation(operation):
    """Whether it is a tuple of the name of a method and as many arguments as it takes."""
    if not isinstance(operation, tuple) or len(operation) == 0 or not isinstance(operation[0], str):
        return False
    return operation[0] in ARGUMENTS and len(operation) == ARGUMENTS[operation[0]] + 1


def check_operations(operations):
    """Raise InvalidOperation if one of these is no operation."""
    for index, operation in enumerate(operations):
        if not is_operation(operation):
            raise InvalidOperation(index)
