"""A slow model of a darkroom, that executes its whole history anew whenever it is asked."""

from maskedprints.errors import UnknownKept
from tests import model

FLIP = ("flip",)


class SlowRoom:

    def __init__(self, width, densities, steps):
        self.width = width
        self.densities = densities
        self.steps = steps
        self.history = []
        self.undone = []

    def print_of(self, deeds):
        return model.tones(self.steps, model.light(self.width, self.densities, deeds))

    def played(self):
        """The deeds on the paper, those under it included, the prints made, and what is kept."""
        deeds, made, kept = [], [], {}
        for name, *given in self.history:
            if name in ("expose", "draw", "flip"):
                deeds = deeds + [(name, *given)]
            elif name == "fresh":
                made = made + [self.print_of(deeds)]
                deeds = [FLIP] * (deeds.count(FLIP) % 2)
            elif name == "keep_as":
                kept = {**kept, given[0]: (deeds, made)}
            else:
                deeds, made = kept[given[0]]
        return deeds, made, kept

    def told(self):
        """What all properties are to be, in the order of the document."""
        deeds, made, kept = self.played()
        light = model.light(self.width, self.densities, deeds)
        return [self.print_of(deeds), light, deeds.count(FLIP) % 2 == 1, made, sorted(kept), self.history]

    def perform(self, operation):
        """Execute an operation; its result."""
        name = operation[0]
        if name == "undo":
            if self.history:
                self.undone.append(self.history.pop())
                return True
            return False
        if name == "redo":
            if self.undone:
                self.history.append(self.undone.pop())
                return True
            return False
        before = self.played()
        if name == "fetch" and operation[1] not in before[2]:
            raise UnknownKept()
        self.history.append(operation)
        self.undone = []
        now = self.print_of(self.played()[0])
        was = self.print_of(before[0])
        if name in ("expose", "draw"):
            return sum(1 for one, other in zip(was, now) if one != other)
        if name == "flip":
            return before[0].count(FLIP) % 2 == 0
        if name == "fresh":
            return was
        return operation[1] in before[2] if name == "keep_as" else now


def told(room):
    """What all properties of a darkroom are, in the order of the document."""
    return [room.print_now, room.lights_now, room.is_over, room.prints_made, room.kept_under, room.history]
