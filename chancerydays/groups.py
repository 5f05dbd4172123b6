"""Rows of numbers that go together by so many."""


def in_groups(row, size):
    return [tuple(row[k:k + size]) for k in range(0, len(row), size)]


def is_by(row, size, columns):
    """Whether the row is by so many, with no number below 0 in these columns."""
    if len(row) % size != 0:
        return False
    return all([number >= 0 or k % size not in columns for k, number in enumerate(row)])
