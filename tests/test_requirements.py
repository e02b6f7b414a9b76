"""The document's requirements, held against ice that is searched without any formula of a bound."""

import random
import unittest

from tests.support import (
    CREATE, INCONSISTENT, IS_POSSIBLE, LIST_MEASUREMENTS, LOWER_BOUNDS, MEASURE, MOST_UNCERTAIN_CELL,
    UPPER_BOUNDS, run,
)


def neighbours(columns, rows, cell):
    column = cell % columns
    row = cell // columns
    around = [(column, row - 1), (column - 1, row), (column + 1, row), (column, row + 1)]
    return [r * columns + c for c, r in around if 0 <= c < columns and 0 <= r < rows]


def possible_thicknesses(columns, rows, max_step, measured):
    """Give for each cell the thicknesses left when no neighbour rules them out any more.

    With a greatest difference alone between neighbours, what is left is just what is possible.
    """
    cells = range(columns * rows)
    left = [{measured[cell]} if cell in measured else set(range(100)) for cell in cells]
    changed = True
    while changed:
        changed = False
        for cell in cells:
            for near in neighbours(columns, rows, cell):
                kept = {
                    t for t in left[cell]
                    if any(u in left[near] for u in range(t - max_step, t + max_step + 1))
                }
                changed = changed or kept != left[cell]
                left[cell] = kept
    return left


def all_ice(columns, rows, max_step, measured):
    """Give every possible ice of a small grid, by trying each thickness of each cell."""
    grown = [[]]
    for cell in range(columns * rows):
        before = [near for near in neighbours(columns, rows, cell) if near < cell]
        choices = [measured[cell]] if cell in measured else range(100)
        grown = [
            ice + [thickness] for ice in grown for thickness in choices
            if all(abs(ice[near] - thickness) <= max_step for near in before)
        ]
    return grown


class RequirementsTest(unittest.TestCase):

    def bounds(self, columns, rows, max_step, measured):
        measures = [(MEASURE, cell, thickness) for cell, thickness in measured.items()]
        answered = run((CREATE, columns, rows, max_step), *measures, (LOWER_BOUNDS,), (UPPER_BOUNDS,))
        self.assertNotIn(INCONSISTENT, answered)
        return answered[-2][1:], answered[-1][1:]

    def test_the_bounds_are_exact_on_small_grids(self):
        grids = [
            (2, 2, 2, {0: 0}), (2, 2, 2, {3: 98}), (2, 2, 1, {1: 50, 2: 52}), (2, 2, 0, {2: 7}),
            (3, 2, 1, {1: 1, 5: 2}), (1, 4, 3, {1: 97}), (4, 1, 3, {0: 4, 3: 9}),
        ]
        for columns, rows, max_step, measured in grids:
            with self.subTest(columns=columns, rows=rows, max_step=max_step, measured=measured):
                ices = all_ice(columns, rows, max_step, measured)
                lower, upper = self.bounds(columns, rows, max_step, measured)
                for cell in range(columns * rows):
                    found = sorted({ice[cell] for ice in ices})
                    self.assertEqual(found, list(range(lower[cell], upper[cell] + 1)))

    def test_bounds_and_measurements_on_many_grids(self):
        choice = random.Random(1)
        for round_number in range(60):
            columns, rows = choice.randint(1, 5), choice.randint(1, 5)
            max_step = choice.choice([0, 1, 2, 5, 9, 20])
            with self.subTest(round_number=round_number):
                self.follow_measurements(choice, columns, rows, max_step)

    def follow_measurements(self, choice, columns, rows, max_step):
        measured = {}
        for number in range(5):
            left = possible_thicknesses(columns, rows, max_step, measured)
            lower, upper = self.bounds(columns, rows, max_step, measured)
            self.assertEqual([min(kept) for kept in left], lower)
            self.assertEqual([max(kept) for kept in left], upper)
            cell = choice.randrange(columns * rows)
            others = {c: t for c, t in measured.items() if c != cell}
            allowed = possible_thicknesses(columns, rows, max_step, others)[cell]
            self.check_edges_of_measure(columns, rows, max_step, others, cell, allowed)
            measured = dict(others)
            measured[cell] = choice.choice(sorted(allowed))
            self.check_that_measuring_never_hurts((columns, rows, max_step), others, measured, cell)

    def check_edges_of_measure(self, columns, rows, max_step, others, cell, allowed):
        made = [(CREATE, columns, rows, max_step)]
        made += [(MEASURE, c, t) for c, t in others.items()]
        for thickness in {0, 99, min(allowed), max(allowed), min(allowed) - 1, max(allowed) + 1}:
            if 0 <= thickness <= 99:
                fits = thickness in allowed
                asked = run(*made, (IS_POSSIBLE, cell, thickness), (MEASURE, cell, thickness))[-2:]
                answer = [len(others) + 1] if fits else INCONSISTENT
                self.assertEqual(asked, [[1 if fits else 0], answer])

    def check_that_measuring_never_hurts(self, grid, others, measured, cell):
        lower_before, upper_before = self.bounds(*grid, others)
        lower, upper = self.bounds(*grid, measured)
        for p in range(len(lower)):
            self.assertLessEqual(upper[p] - lower[p], upper_before[p] - lower_before[p])
        self.assertEqual((lower[cell], upper[cell]), (measured[cell], measured[cell]))

    def test_the_most_uncertain_cell_on_many_grids(self):
        choice = random.Random(2)
        for round_number in range(40):
            columns, rows, max_step = choice.randint(1, 5), choice.randint(1, 5), choice.randint(0, 20)
            measures = [(MEASURE, choice.randrange(columns * rows), choice.randint(0, 99)) for number in range(6)]
            answered = run(
                (CREATE, columns, rows, max_step), *measures,
                (LIST_MEASUREMENTS,), (LOWER_BOUNDS,), (UPPER_BOUNDS,), (MOST_UNCERTAIN_CELL,),
            )
            lower, upper = answered[-3][1:], answered[-2][1:]
            apart = [high - low for low, high in zip(lower, upper)]
            with self.subTest(round_number=round_number):
                self.assertEqual(answered[-1], [apart.index(max(apart)), max(apart)])


if __name__ == "__main__":
    unittest.main()
