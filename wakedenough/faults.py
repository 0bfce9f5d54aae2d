"""First faults of what is judged."""


def fault_at(word, marks):
    """Return the pair of a word and the number of the first mark that is true, or None if none is."""
    for k, mark in enumerate(marks):
        if mark:
            return (word, k)
    return None


def first_fault(faults):
    """Return the first of some faults that is there, or None if none is."""
    for fault in faults:
        if fault is not None:
            return fault
    return None


def is_pair(value):
    """Return whether a value is a pair."""
    return isinstance(value, tuple) and len(value) == 2
