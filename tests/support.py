"""What the tests share: the calls by name, and answers cut into one list a call."""

from icebounds.field import answers

CREATE = 0
SET_MAX_STEP = 1
MEASURE = 2
REMOVE_MEASUREMENT = 3
LIST_MEASUREMENTS = 4
LOWER_BOUND = 5
UPPER_BOUND = 6
LOWER_BOUNDS = 7
UPPER_BOUNDS = 8
IS_POSSIBLE = 9
UNCERTAINTY = 10
MOST_UNCERTAIN_CELL = 11

NO_SUCH_CELL = [-2]
NO_INSTANCE = [-11]
OUT_OF_RANGE = [-22]
INCONSISTENT = [-33]

GREATEST_NUMBER = 4294967295

# Every call but create, with parameters that a grid of any size allows.
OTHER_CALLS = [
    (SET_MAX_STEP, 5),
    (MEASURE, 0, 10),
    (REMOVE_MEASUREMENT, 0),
    (LIST_MEASUREMENTS,),
    (LOWER_BOUND, 0),
    (UPPER_BOUND, 0),
    (LOWER_BOUNDS,),
    (UPPER_BOUNDS,),
    (IS_POSSIBLE, 0, 10),
    (UNCERTAINTY, 0),
    (MOST_UNCERTAIN_CELL,),
]


def flat(calls):
    return [number for call in calls for number in call]


def cut(answered):
    parts = []
    at = 0
    while at < len(answered):
        end = at + 1 + answered[at]
        if end > len(answered):
            raise AssertionError(f"an answer is cut short: {answered}")
        parts.append(answered[at + 1:end])
        at = end
    return parts


def run(*calls):
    """Give one list of numbers for each call."""
    parts = cut(answers(flat(calls)))
    if len(parts) != len(calls):
        raise AssertionError(f"{len(calls)} calls, {len(parts)} answers")
    return parts


def last(*calls):
    """Give the answer to the last call."""
    return run(*calls)[-1]


def state(columns, rows):
    """Give the calls whose answers show all that these calls tell of an instance."""
    shown = [(LIST_MEASUREMENTS,), (LOWER_BOUNDS,), (UPPER_BOUNDS,), (MOST_UNCERTAIN_CELL,)]
    # The cell behind the last one tells the grid from one with more cells.
    return shown + [(UNCERTAINTY, columns * rows - 1), (UNCERTAINTY, columns * rows)]
