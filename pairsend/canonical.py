"""Canonical lists: lists that bring in new numbers in the order 0, 1, 2, ..."""


def different(numbers):
    """Return how many different numbers there are."""
    return len(set(numbers))


def canonical_lists(length):
    """Return all canonical lists of this length, the smallest first."""
    found = [[]]
    for step in range(length):
        longer = []
        for head in found:
            for number in range(different(head) + 1):
                longer.append(head + [number])
        found = longer
    return found
