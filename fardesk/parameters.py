"""The numbers of a sequence, a tuple of whole numbers and None."""


def number_at(numbers, place):
    """Return the number at a place; one that is missing or None is 0."""
    if place < len(numbers) and numbers[place] is not None:
        return numbers[place]
    return 0


def count_at(numbers, place):
    """Return the number at a place; one that is missing, None or 0 counts as 1."""
    return max(1, number_at(numbers, place))
