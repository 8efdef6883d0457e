"""Taking the messages of the other end of an association, and delivering them."""

from fardesk.associations import gathered, of_stream


def is_new(association, number, window):
    """Return whether a message with this number is new."""
    if not association.up_to < number <= association.up_to + window:
        return False
    return number not in association.arrived


def can_be_delivered(association, row):
    """Return whether a waiting message can be delivered: at once, or since all before it in its stream are."""
    _, stream, place, _ = row
    return stream is None or place == len(of_stream(association.delivered, stream))


def first_deliverable(association):
    """Return the index of the first waiting message that can be delivered, or None."""
    for index, row in enumerate(association.waiting):
        if can_be_delivered(association, row):
            return index
    return None


def take_message(association, row):
    """Take a new message, and deliver all waiting ones that can be delivered then."""
    numbers = association.arrived + [row[0]]
    association.up_to, association.arrived = gathered(association.up_to, numbers)
    association.waiting.append(row)
    index = first_deliverable(association)
    while index is not None:
        association.delivered.append(association.waiting.pop(index))
        index = first_deliverable(association)
