"""The ice of one grid: its measurements and the bounds that follow from them."""

MAX_THICKNESS = 99


class Ice:
    """A grid, its greatest step, and its measurements: (cell, thickness), the latest last."""

    def __init__(self, columns, rows, max_step):
        self.columns = columns
        self.rows = rows
        self.max_step = max_step
        self.measurements = []

    def cell_count(self):
        """Give the number of cells of the grid."""
        return self.columns * self.rows

    def has_cell(self, cell):
        """Tell whether the grid has a cell of this number."""
        return cell < self.cell_count()

    def distance(self, p, q):
        """Give the number of steps between two cells."""
        across = abs(p % self.columns - q % self.columns)
        down = abs(p // self.columns - q // self.columns)
        return across + down

    def measurements_except(self, cell):
        """Give a new list of the measurements of all other cells."""
        return [measurement for measurement in self.measurements if measurement[0] != cell]

    def fits(self, cell, thickness, measurements, max_step):
        """Tell whether a thickness at a cell is consistent with these measurements."""
        for measured, known in measurements:
            if abs(thickness - known) > max_step * self.distance(cell, measured):
                return False
        return True

    def is_consistent_with_step(self, max_step):
        """Tell whether the measurements are consistent with each other at this step."""
        for cell, thickness in self.measurements:
            if not self.fits(cell, thickness, self.measurements, max_step):
                return False
        return True

    def lower_bound(self, cell):
        """Give the smallest thickness that the ice can have at the cell."""
        bound = 0
        for measured, thickness in self.measurements:
            bound = max(bound, thickness - self.max_step * self.distance(cell, measured))
        return bound

    def upper_bound(self, cell):
        """Give the greatest thickness that the ice can have at the cell."""
        bound = MAX_THICKNESS
        for measured, thickness in self.measurements:
            bound = min(bound, thickness + self.max_step * self.distance(cell, measured))
        return bound

    def uncertainty(self, cell):
        """Give how far the bounds of the cell lie apart."""
        return self.upper_bound(cell) - self.lower_bound(cell)
