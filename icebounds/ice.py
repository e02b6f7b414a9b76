"""The ice of one grid: its measurements, and the bounds and routes that follow from them."""

MAX_THICKNESS = 99


class Ice:
    """A grid, its greatest step, and its measurements: (cell, thickness), the latest last."""

    def __init__(self, columns, rows, max_step):
        self.columns = columns
        self.rows = rows
        self.max_step = max_step
        self.measurements = []

    def cell_count(self):
        """Give the number of cells of the grid."""
        return self.columns * self.rows

    def has_cell(self, cell):
        """Tell whether the grid has a cell of this number."""
        return cell < self.cell_count()

    def distance(self, p, q):
        """Give the number of steps between two cells."""
        across = abs(p % self.columns - q % self.columns)
        down = abs(p // self.columns - q // self.columns)
        return across + down

    def neighbours(self, cell):
        """Give the cells next to a cell, in the order above, left, right, below."""
        around = []
        if cell >= self.columns:
            around.append(cell - self.columns)
        if cell % self.columns > 0:
            around.append(cell - 1)
        if cell % self.columns < self.columns - 1:
            around.append(cell + 1)
        if cell + self.columns < self.cell_count():
            around.append(cell + self.columns)
        return around

    def is_measured(self, cell):
        """Tell whether the cell has a measurement."""
        return any([measured == cell for measured, thickness in self.measurements])

    def measurements_except(self, cell):
        """Give a new list of the measurements of all other cells."""
        return [measurement for measurement in self.measurements if measurement[0] != cell]

    def record(self, cell, thickness):
        """Put a measurement at the end, in the place of an earlier one of the same cell."""
        self.measurements = self.measurements_except(cell) + [(cell, thickness)]

    def with_measurement(self, cell, thickness):
        """Give another ice that differs from this one by the measurement."""
        other = Ice(self.columns, self.rows, self.max_step)
        other.measurements = list(self.measurements)
        other.record(cell, thickness)
        return other

    def fits(self, cell, thickness, measurements, max_step):
        """Tell whether a thickness at a cell is consistent with these measurements."""
        for measured, known in measurements:
            if abs(thickness - known) > max_step * self.distance(cell, measured):
                return False
        return True

    def is_consistent_with_step(self, max_step):
        """Tell whether the measurements are consistent with each other at this step."""
        for cell, thickness in self.measurements:
            if not self.fits(cell, thickness, self.measurements, max_step):
                return False
        return True

    def smallest_consistent_step(self):
        """Give the smallest step at which the measurements are consistent."""
        step = 0
        # It ends at max_step at the latest: the measurements are always consistent with that.
        while not self.is_consistent_with_step(step):
            step += 1
        return step

    def lower_bound(self, cell):
        """Give the smallest thickness that the ice can have at the cell."""
        bound = 0
        for measured, thickness in self.measurements:
            bound = max(bound, thickness - self.max_step * self.distance(cell, measured))
        return bound

    def upper_bound(self, cell):
        """Give the greatest thickness that the ice can have at the cell."""
        bound = MAX_THICKNESS
        for measured, thickness in self.measurements:
            bound = min(bound, thickness + self.max_step * self.distance(cell, measured))
        return bound

    def uncertainty(self, cell):
        """Give how far the bounds of the cell lie apart."""
        return self.upper_bound(cell) - self.lower_bound(cell)

    def total_uncertainty(self):
        """Give the sum of the uncertainties of all cells."""
        return sum([self.uncertainty(cell) for cell in range(self.cell_count())])

    def worst_total_uncertainty(self, cell):
        """Give the greatest total uncertainty that measuring the cell may leave."""
        worst = 0
        for thickness in range(self.lower_bound(cell), self.upper_bound(cell) + 1):
            worst = max(worst, self.with_measurement(cell, thickness).total_uncertainty())
        return worst

    def is_safe(self, cell, required):
        """Tell whether the ice at the cell certainly has the required thickness."""
        return self.lower_bound(cell) >= required

    def is_uncertain(self, cell, required):
        """Tell whether the ice at the cell may or may not have the required thickness."""
        return self.lower_bound(cell) < required <= self.upper_bound(cell)

    def safe_cells(self, required):
        """Give the safe cells in increasing order."""
        return [cell for cell in range(self.cell_count()) if self.is_safe(cell, required)]

    def uncertain_cells(self, required):
        """Give the uncertain cells in increasing order."""
        return [cell for cell in range(self.cell_count()) if self.is_uncertain(cell, required)]

    def steps_over_safe_cells(self, required, origin):
        """Give, for each cell that a safe route from origin reaches, the fewest steps to it."""
        safe = self.safe_cells(required)
        if origin not in safe:
            return {}
        steps = {origin: 0}
        outermost = [origin]
        while outermost:
            reached = []
            for cell in outermost:
                for neighbour in self.neighbours(cell):
                    if neighbour in safe and neighbour not in steps:
                        steps[neighbour] = steps[cell] + 1
                        reached.append(neighbour)
            outermost = reached
        return steps

    def safe_route(self, required, origin, target):
        """Give the cells of the reported safe route, or an empty list if there is none."""
        steps = self.steps_over_safe_cells(required, origin)
        if target not in steps:
            return []
        # The document's choice among the shortest routes is made from the target backwards.
        backwards = [target]
        cell = target
        while cell != origin:
            nearer = [near for near in self.neighbours(cell) if steps.get(near) == steps[cell] - 1]
            cell = nearer[0]
            backwards.append(cell)
        return list(reversed(backwards))

    def max_safe_thickness(self, origin, target):
        """Give the greatest thickness for which there is a safe route."""
        required = MAX_THICKNESS
        # It ends at 0 at the latest: no ice is thinner.
        while not self.safe_route(required, origin, target):
            required -= 1
        return required
