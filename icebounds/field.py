"""The calls on one field of ice, handed in and answered as flat lists of whole numbers."""

from icebounds.ice import Ice, MAX_THICKNESS

CREATE = 0
# How many parameters each call has, by its number.
PARAMETER_COUNTS = (3, 1, 2, 1, 0, 1, 1, 0, 0, 2, 1, 0)

MAX_SIDE = 5
GREATEST_MAX_STEP = 20

NO_SUCH_CELL = -2
NO_INSTANCE = -11
OUT_OF_RANGE = -22
INCONSISTENT = -33


def is_creatable(columns, rows, max_step):
    """Tell whether a grid of this size and with this step may be created."""
    if not (1 <= columns <= MAX_SIDE and 1 <= rows <= MAX_SIDE):
        return False
    return max_step <= GREATEST_MAX_STEP


def refusal(ice, cell, thickness):
    """Give the answer that refuses this cell or thickness, or an empty list."""
    # The document lists the cell's error first in every call that takes both.
    if not ice.has_cell(cell):
        return [NO_SUCH_CELL]
    if thickness > MAX_THICKNESS:
        return [OUT_OF_RANGE]
    return []


def set_max_step(ice, max_step):
    """Change the greatest step and answer the previous one."""
    if max_step > GREATEST_MAX_STEP:
        return [OUT_OF_RANGE]
    if not ice.is_consistent_with_step(max_step):
        return [INCONSISTENT]
    previous = ice.max_step
    ice.max_step = max_step
    return [previous]


def measure(ice, cell, thickness):
    """Record a measurement and answer how many there are."""
    refused = refusal(ice, cell, thickness)
    if refused:
        return refused
    others = ice.measurements_except(cell)
    if not ice.fits(cell, thickness, others, ice.max_step):
        return [INCONSISTENT]
    ice.measurements = others + [(cell, thickness)]
    return [len(ice.measurements)]


def remove_measurement(ice, cell):
    """Remove the measurement of the cell and answer how many remain."""
    others = ice.measurements_except(cell)
    if len(others) == len(ice.measurements):
        return [NO_SUCH_CELL]
    ice.measurements = others
    return [len(others)]


def list_measurements(ice):
    """Answer the number of measurements, then the cell and the thickness of each."""
    answer = [len(ice.measurements)]
    for cell, thickness in ice.measurements:
        answer.append(cell)
        answer.append(thickness)
    return answer


def lower_bound(ice, cell):
    """Answer the lower bound at the cell."""
    if not ice.has_cell(cell):
        return [NO_SUCH_CELL]
    return [ice.lower_bound(cell)]


def upper_bound(ice, cell):
    """Answer the upper bound at the cell."""
    if not ice.has_cell(cell):
        return [NO_SUCH_CELL]
    return [ice.upper_bound(cell)]


def lower_bounds(ice):
    """Answer the number of cells, then the lower bound at each."""
    return [ice.cell_count()] + [ice.lower_bound(cell) for cell in range(ice.cell_count())]


def upper_bounds(ice):
    """Answer the number of cells, then the upper bound at each."""
    return [ice.cell_count()] + [ice.upper_bound(cell) for cell in range(ice.cell_count())]


def is_possible(ice, cell, thickness):
    """Answer 1 if the ice can have this thickness at the cell, otherwise 0."""
    refused = refusal(ice, cell, thickness)
    if refused:
        return refused
    # The bounds are exact, and at a measured cell both are the measured thickness.
    if ice.lower_bound(cell) <= thickness <= ice.upper_bound(cell):
        return [1]
    return [0]


def uncertainty(ice, cell):
    """Answer the uncertainty at the cell."""
    if not ice.has_cell(cell):
        return [NO_SUCH_CELL]
    return [ice.uncertainty(cell)]


def most_uncertain_cell(ice):
    """Answer the cell with the greatest uncertainty, then this uncertainty."""
    found = 0
    for cell in range(1, ice.cell_count()):
        # Only a greater one takes its place, so that ties stay with the smaller number.
        if ice.uncertainty(cell) > ice.uncertainty(found):
            found = cell
    return [found, ice.uncertainty(found)]


OPERATIONS = {
    1: set_max_step,
    2: measure,
    3: remove_measurement,
    4: list_measurements,
    5: lower_bound,
    6: upper_bound,
    7: lower_bounds,
    8: upper_bounds,
    9: is_possible,
    10: uncertainty,
    11: most_uncertain_cell,
}


def operate(ice, number, parameters):
    """Answer one call on an instance."""
    operation = OPERATIONS[number]
    if len(parameters) == 0:
        return operation(ice)
    if len(parameters) == 1:
        return operation(ice, parameters[0])
    return operation(ice, parameters[0], parameters[1])


def answers(calls):
    """Answer the calls one after another: for each how many numbers, then these."""
    answered = []
    ice = None
    at = 0
    while at < len(calls):
        number = calls[at]
        end = at + 1 + PARAMETER_COUNTS[number]
        parameters = calls[at + 1:end]
        at = end
        if number == CREATE:
            answer = [OUT_OF_RANGE]
            if is_creatable(parameters[0], parameters[1], parameters[2]):
                ice = Ice(parameters[0], parameters[1], parameters[2])
                answer = [0]
        elif ice is None:
            answer = [NO_INSTANCE]
        else:
            answer = operate(ice, number, parameters)
        answered.append(len(answer))
        answered.extend(answer)
    return answered
