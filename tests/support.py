"""What the tests share: the calls by name, and answers cut into one list a call."""

from icebounds.field import answers

CREATE = 0
SET_MAX_STEP = 1
MEASURE = 2
REMOVE_MEASUREMENT = 3
LIST_MEASUREMENTS = 4
LOWER_BOUND = 5
UPPER_BOUND = 6
LOWER_BOUNDS = 7
UPPER_BOUNDS = 8
IS_POSSIBLE = 9
UNCERTAINTY = 10
MOST_UNCERTAIN_CELL = 11
CHECK_CELL = 12
SAFE_CELLS = 13
UNCERTAIN_CELLS = 14
SAFE_ROUTE = 15
SAFE_ROUTE_LENGTH = 16
MAX_SAFE_THICKNESS = 17
TOTAL_UNCERTAINTY_WITH = 18
WORST_TOTAL_UNCERTAINTY = 19
SMALLEST_CONSISTENT_STEP = 20
TOTAL_UNCERTAINTY = 21
SUMMARY = 22

NO_SUCH_CELL = [-2]
NO_INSTANCE = [-11]
OUT_OF_RANGE = [-22]
ALREADY_MEASURED = [-17]
INCONSISTENT = [-33]
NO_SAFE_ROUTE = [-33]

GREATEST_NUMBER = 4294967295

# Every call but create, with parameters that a grid of any size allows.
OTHER_CALLS = [
    (SET_MAX_STEP, 5),
    (MEASURE, 0, 10),
    (REMOVE_MEASUREMENT, 0),
    (LIST_MEASUREMENTS,),
    (LOWER_BOUND, 0),
    (UPPER_BOUND, 0),
    (LOWER_BOUNDS,),
    (UPPER_BOUNDS,),
    (IS_POSSIBLE, 0, 10),
    (UNCERTAINTY, 0),
    (MOST_UNCERTAIN_CELL,),
    (CHECK_CELL, 10, 0),
    (SAFE_CELLS, 10),
    (UNCERTAIN_CELLS, 10),
    (SAFE_ROUTE, 0, 0, 0),
    (SAFE_ROUTE_LENGTH, 0, 0, 0),
    (MAX_SAFE_THICKNESS, 0, 0),
    (TOTAL_UNCERTAINTY_WITH, 0, 10),
    (WORST_TOTAL_UNCERTAINTY, 0),
    (SMALLEST_CONSISTENT_STEP,),
    (TOTAL_UNCERTAINTY,),
    (SUMMARY,),
]

# The answers to these show all that an instance holds.
STATE = [(SUMMARY,), (LIST_MEASUREMENTS,), (LOWER_BOUNDS,), (UPPER_BOUNDS,)]


def flat(calls):
    return [number for call in calls for number in call]


def cut(answered):
    parts = []
    at = 0
    while at < len(answered):
        end = at + 1 + answered[at]
        if end > len(answered):
            raise AssertionError(f"an answer is cut short: {answered}")
        parts.append(answered[at + 1:end])
        at = end
    return parts


def run(*calls):
    """Give one list of numbers for each call."""
    handed_in = flat(calls)
    if len(calls) > 40 or len(handed_in) > 160:
        raise AssertionError("the document says that no such list is handed in")
    parts = cut(answers(handed_in))
    if len(parts) != len(calls):
        raise AssertionError(f"{len(calls)} calls, {len(parts)} answers")
    return parts


def last(*calls):
    """Give the answer to the last call."""
    return run(*calls)[-1]


def neighbours(columns, rows, cell):
    """Give the cells next to a cell, in the document's order."""
    column = cell % columns
    row = cell // columns
    around = [(column, row - 1), (column - 1, row), (column + 1, row), (column, row + 1)]
    return [r * columns + c for c, r in around if 0 <= c < columns and 0 <= r < rows]
