"""Rows of numbers put together: each row rises and has each number once."""


def in_both(ones, others):
    """The row of the numbers that stand in both rows."""
    return sorted(set(ones) & set(others))


def in_either(ones, others):
    """The row of the numbers that stand in one of the rows at least."""
    return sorted(set(ones) | set(others))


def in_first(ones, others):
    """The row of the numbers that stand in the first row but not in the other one."""
    return sorted(set(ones) - set(others))
