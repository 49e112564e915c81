"""Somebody who sees single cells of a print, and wants to know the negative."""

from maskedprints.basics import UNSEEN, check_cell, check_number, check_recipe, check_size, check_steps, light_by
from maskedprints.basics import open_pair, tone_of
from maskedprints.errors import NoNegative
from maskedprints.telling import negative_count, sure_figure, told, ways_of


class Viewer:
    """Somebody who knows how a print was made, but not of which negative."""

    def __init__(self, width, height, steps, recipe):
        check_size(width, height)
        check_steps(steps)
        check_recipe(recipe, width * height)
        self.columns = width
        self.lines = height
        self.paper_steps = steps
        self.deeds = recipe
        self.tones = UNSEEN * (width * height)
        self.looks = []
        self.possible = self.negatives_left(self.tones)

    @property
    def count_left(self):
        """How many negatives are possible."""
        return self.possible

    @property
    def told_so_far(self):
        """The list of all tones that were told, pairs of a cell and a tone."""
        return list(self.looks)

    def seen(self, cell, tone):
        """Take the tone of a cell of the print; how many negatives are possible then."""
        check_cell(cell, len(self.tones))
        check_number(tone, 0, len(self.paper_steps))
        if self.tones[cell] != UNSEEN and self.tones[cell] != str(tone):
            raise NoNegative()
        tones = self.tones[:cell] + str(tone) + self.tones[cell + 1:]
        possible = self.negatives_left(tones)
        if possible == 0:
            raise NoNegative()
        self.tones = tones
        self.looks.append((cell, tone))
        self.possible = possible
        return possible

    def sure_densities(self):
        """The text of the densities of all cells of the negative that are sure."""
        return told(self.columns, self.lines, self.paper_steps, self.deeds, self.tones)

    def sure_tones(self):
        """The text of the tones of all cells of the print that are sure."""
        return "".join([sure_figure(self.tones_left(cell)) for cell in range(len(self.tones))])

    def best_look(self):
        """The least cell of the print whose tone leaves the fewest negatives, whatever it is."""
        return min([(self.most_left(cell), cell) for cell in range(len(self.tones))])[1]

    def negatives_left(self, tones):
        """How many negatives are possible by tones that were seen."""
        return negative_count(self.columns, self.lines, self.paper_steps, self.deeds, tones)

    def tones_left(self, cell):
        """The tone of a cell for each pair of densities that it and its mirror image can still have."""
        ticks = open_pair(self.columns, self.deeds, cell)
        pairs = ways_of(self.columns, self.paper_steps, self.deeds, self.tones, cell)
        return [tone_of(light_by(ticks, density, other), self.paper_steps) for density, other in pairs]

    def most_left(self, cell):
        """How many negatives are possible at the most behind a look at a cell."""
        tones = self.tones_left(cell)
        # Each pair of densities goes with all that other cells can have, so that all pairs leave equally many.
        return self.possible // len(tones) * max([tones.count(tone) for tone in tones])
