"""Ascending tuples and ids, which choices, records and unions have in common."""

LEAST_ID = 1
GREATEST_ID = 99


def is_ascending(row):
    """Tells whether each item of a tuple is greater than the one before it."""
    return all([row[at] < row[at + 1] for at in range(len(row) - 1)])


def are_ids(numbers):
    """Tells whether a tuple of integers is an ascending tuple of ids."""
    return is_ascending(numbers) and all([LEAST_ID <= number <= GREATEST_ID for number in numbers])


def are_live_and_retired(live, retired):
    """Tells whether two tuples of integers are ascending tuples of ids without a common id."""
    if not are_ids(live) or not are_ids(retired):
        return False
    return not any([number in retired for number in live])


def are_alternatives(live, retired, is_open):
    """Tells whether the ids may be those of a choice or a union that is open or not."""
    if not are_live_and_retired(live, retired):
        return False
    return is_open or (len(retired) == 0 and len(live) > 0)
