"""Tab stops: ascending tuples of columns."""


def stops_between(start, end):
    """Return the list of the columns from start up to, but not including, end that are tab stops at first."""
    return [column for column in range(start, end) if column >= 8 and column % 8 == 0]


def first_stops(columns):
    """Return the tab stops of a new terminal."""
    return tuple(stops_between(0, columns))


def resized_stops(stops, old, new):
    """Return the tab stops after the number of columns became another one."""
    kept = [column for column in stops if column < new]
    return tuple(kept + stops_between(old, new))


def with_stop(stops, column):
    """Return the tab stops and this column."""
    return tuple(sorted(list(without_stop(stops, column)) + [column]))


def without_stop(stops, column):
    """Return the tab stops but this column."""
    return tuple([stop for stop in stops if stop != column])


def next_stop(stops, column, last):
    """Return the next tab stop to the right, or the last column if there is none."""
    for stop in stops:
        if stop > column:
            return stop
    return last


def stop_before(stops, column):
    """Return the next tab stop to the left, or column 0 if there is none."""
    before = [stop for stop in stops if stop < column]
    return max(before, default=0)
