"""A book: a coal to which cells are put and from which they are taken, and what was reckoned of it."""

from sootring.cells import is_cell
from sootring.coal import Coal
from sootring.errors import NoCell, Unpaired
from sootring.listing import how_many
from sootring.rim import least_word, rim
from sootring.rings import most_ringed


def how_many_ringed(coal):
    """How many cells can be ringed at once, or None where there is no pairing."""
    try:
        return len(most_ringed(coal)[0])
    except Unpaired:
        return None


class Book:
    """A book; it begins with the coal of the one cell (0, 0)."""

    def __init__(self):
        self.kept_coal = Coal([(0, 0)])
        self.known_counts = {}
        self.known_rings = {}
        self.untold_news = []

    def put(self, cell):
        """Put a cell to the coal."""
        # A coal refuses any thing among its cells in the order that is due here too.
        self.kept_coal = Coal(self.kept_coal.cells() + [cell])

    def take(self, cell):
        """Take a cell out of the coal."""
        cells = self.kept_coal.cells()
        if not is_cell(cell) or cell not in cells:
            raise NoCell("this is no cell of the coal")
        self.kept_coal = Coal([other for other in cells if other != cell])

    def coal(self):
        """The coal as it is now."""
        return self.kept_coal

    def word(self):
        """The least word of the coal."""
        return least_word(rim(self.kept_coal))

    def count(self):
        """How many pairings the coal has."""
        least = self.word()
        if least not in self.known_counts:
            self.known_counts[least] = how_many(self.kept_coal)
            self.untold_news.append(f"count {least}")
        return self.known_counts[least]

    def rings(self):
        """How many cells of the coal can be ringed at once, or None where it has no pairing."""
        least = self.word()
        if least not in self.known_rings:
            self.known_rings[least] = how_many_ringed(self.kept_coal)
            self.untold_news.append(f"rings {least}")
        return self.known_rings[least]

    def news(self):
        """What was reckoned since news were last told."""
        told = self.untold_news
        self.untold_news = []
        return told
