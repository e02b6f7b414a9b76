"""The calls on one field of ice, handed in and answered as flat lists of whole numbers."""

from icebounds.ice import Ice, MAX_THICKNESS

CREATE = 0
# How many parameters each call has, by its number.
PARAMETER_COUNTS = (3, 1, 2, 1, 0, 1, 1, 0, 0, 2, 1, 0, 2, 1, 1, 3, 3, 2, 2, 1, 0, 0, 0)

MAX_SIDE = 5
GREATEST_MAX_STEP = 20

NO_SUCH_CELL = -2
NO_INSTANCE = -11
OUT_OF_RANGE = -22
ALREADY_MEASURED = -17
INCONSISTENT = -33
NO_SAFE_ROUTE = -33

NOT_SAFE = 0
SAFE = 1
UNCERTAIN = 2


def is_creatable(columns, rows, max_step):
    """Tell whether a grid of this size and with this step may be created."""
    if not (1 <= columns <= MAX_SIDE and 1 <= rows <= MAX_SIDE):
        return False
    return max_step <= GREATEST_MAX_STEP


def refusal(ice, cells, thickness):
    """Give the answer that refuses one of the cells or the thickness, or an empty list."""
    # The document lists the cells' error first in every call that takes both.
    for cell in cells:
        if not ice.has_cell(cell):
            return [NO_SUCH_CELL]
    if thickness > MAX_THICKNESS:
        return [OUT_OF_RANGE]
    return []


def measure_refusal(ice, cell, thickness):
    """Give the answer that refuses a measurement, or an empty list."""
    refused = refusal(ice, [cell], thickness)
    if refused:
        return refused
    if not ice.fits(cell, thickness, ice.measurements_except(cell), ice.max_step):
        return [INCONSISTENT]
    return []


def set_max_step(ice, max_step):
    """Change the greatest step and answer the previous one."""
    if max_step > GREATEST_MAX_STEP:
        return [OUT_OF_RANGE]
    if not ice.is_consistent_with_step(max_step):
        return [INCONSISTENT]
    previous = ice.max_step
    ice.max_step = max_step
    return [previous]


def measure(ice, cell, thickness):
    """Record a measurement and answer how many there are."""
    refused = measure_refusal(ice, cell, thickness)
    if refused:
        return refused
    ice.record(cell, thickness)
    return [len(ice.measurements)]


def remove_measurement(ice, cell):
    """Remove the measurement of the cell and answer how many remain."""
    if not ice.is_measured(cell):
        return [NO_SUCH_CELL]
    ice.measurements = ice.measurements_except(cell)
    return [len(ice.measurements)]


def list_measurements(ice):
    """Answer the number of measurements, then the cell and the thickness of each."""
    answer = [len(ice.measurements)]
    for cell, thickness in ice.measurements:
        answer.append(cell)
        answer.append(thickness)
    return answer


def lower_bound(ice, cell):
    """Answer the lower bound at the cell."""
    if not ice.has_cell(cell):
        return [NO_SUCH_CELL]
    return [ice.lower_bound(cell)]


def upper_bound(ice, cell):
    """Answer the upper bound at the cell."""
    if not ice.has_cell(cell):
        return [NO_SUCH_CELL]
    return [ice.upper_bound(cell)]


def lower_bounds(ice):
    """Answer the number of cells, then the lower bound at each."""
    return [ice.cell_count()] + [ice.lower_bound(cell) for cell in range(ice.cell_count())]


def upper_bounds(ice):
    """Answer the number of cells, then the upper bound at each."""
    return [ice.cell_count()] + [ice.upper_bound(cell) for cell in range(ice.cell_count())]


def is_possible(ice, cell, thickness):
    """Answer 1 if the ice can have this thickness at the cell, otherwise 0."""
    refused = refusal(ice, [cell], thickness)
    if refused:
        return refused
    # The bounds are exact, and at a measured cell both are the measured thickness.
    if ice.lower_bound(cell) <= thickness <= ice.upper_bound(cell):
        return [1]
    return [0]


def uncertainty(ice, cell):
    """Answer the uncertainty at the cell."""
    if not ice.has_cell(cell):
        return [NO_SUCH_CELL]
    return [ice.uncertainty(cell)]


def most_uncertain_cell(ice):
    """Answer the cell with the greatest uncertainty, then this uncertainty."""
    found = 0
    for cell in range(1, ice.cell_count()):
        # Only a greater one takes its place, so that ties stay with the smaller number.
        if ice.uncertainty(cell) > ice.uncertainty(found):
            found = cell
    return [found, ice.uncertainty(found)]


def check_cell(ice, required, cell):
    """Answer 1 if the cell is safe, 2 if it is uncertain, 0 if it is neither."""
    refused = refusal(ice, [cell], required)
    if refused:
        return refused
    if ice.is_safe(cell, required):
        return [SAFE]
    if ice.is_uncertain(cell, required):
        return [UNCERTAIN]
    return [NOT_SAFE]


def safe_cells(ice, required):
    """Answer the number of safe cells, then these."""
    refused = refusal(ice, [], required)
    if refused:
        return refused
    cells = ice.safe_cells(required)
    return [len(cells)] + cells


def uncertain_cells(ice, required):
    """Answer the number of uncertain cells, then these."""
    refused = refusal(ice, [], required)
    if refused:
        return refused
    cells = ice.uncertain_cells(required)
    return [len(cells)] + cells


def safe_route(ice, required, origin, target):
    """Answer the number of cells of the reported safe route, then these."""
    refused = refusal(ice, [origin, target], required)
    if refused:
        return refused
    route = ice.safe_route(required, origin, target)
    # A route has one cell at least, so an empty one stands for none.
    if not route:
        return [NO_SAFE_ROUTE]
    return [len(route)] + route


def safe_route_length(ice, required, origin, target):
    """Answer the number of steps of the reported safe route."""
    answer = safe_route(ice, required, origin, target)
    if answer[0] < 0:
        return answer
    return [answer[0] - 1]


def max_safe_thickness(ice, origin, target):
    """Answer the greatest required thickness for which there is a safe route."""
    if not (ice.has_cell(origin) and ice.has_cell(target)):
        return [NO_SUCH_CELL]
    return [ice.max_safe_thickness(origin, target)]


def total_uncertainty_with(ice, cell, thickness):
    """Answer the total uncertainty that there would be after a measurement."""
    refused = measure_refusal(ice, cell, thickness)
    if refused:
        return refused
    return [ice.with_measurement(cell, thickness).total_uncertainty()]


def worst_total_uncertainty(ice, cell):
    """Answer the greatest total uncertainty that there may be after measuring the cell."""
    if not ice.has_cell(cell):
        return [NO_SUCH_CELL]
    if ice.is_measured(cell):
        return [ALREADY_MEASURED]
    return [ice.worst_total_uncertainty(cell)]


def smallest_consistent_step(ice):
    """Answer the smallest step at which the measurements would be consistent."""
    return [ice.smallest_consistent_step()]


def total_uncertainty(ice):
    """Answer the sum of the uncertainties of all cells."""
    return [ice.total_uncertainty()]


def summary(ice):
    """Answer the size of the grid, the greatest step and the number of measurements."""
    return [ice.columns, ice.rows, ice.max_step, len(ice.measurements)]


OPERATIONS = {
    1: set_max_step,
    2: measure,
    3: remove_measurement,
    4: list_measurements,
    5: lower_bound,
    6: upper_bound,
    7: lower_bounds,
    8: upper_bounds,
    9: is_possible,
    10: uncertainty,
    11: most_uncertain_cell,
    12: check_cell,
    13: safe_cells,
    14: uncertain_cells,
    15: safe_route,
    16: safe_route_length,
    17: max_safe_thickness,
    18: total_uncertainty_with,
    19: worst_total_uncertainty,
    20: smallest_consistent_step,
    21: total_uncertainty,
    22: summary,
}


def operate(ice, number, parameters):
    """Answer one call on an instance."""
    operation = OPERATIONS[number]
    if len(parameters) == 0:
        return operation(ice)
    if len(parameters) == 1:
        return operation(ice, parameters[0])
    if len(parameters) == 2:
        return operation(ice, parameters[0], parameters[1])
    return operation(ice, parameters[0], parameters[1], parameters[2])


def answers(calls):
    """Answer the calls one after another: for each how many numbers, then these."""
    answered = []
    ice = None
    at = 0
    while at < len(calls):
        number = calls[at]
        end = at + 1 + PARAMETER_COUNTS[number]
        parameters = calls[at + 1:end]
        at = end
        if number == CREATE:
            answer = [OUT_OF_RANGE]
            if is_creatable(parameters[0], parameters[1], parameters[2]):
                ice = Ice(parameters[0], parameters[1], parameters[2])
                answer = [0]
        elif ice is None:
            answer = [NO_INSTANCE]
        else:
            answer = operate(ice, number, parameters)
        answered.append(len(answer))
        answered.extend(answer)
    return answered
