"""Tapes, which record screens and the times at which they came."""

from fardesk.differences import applied, difference
from fardesk.errors import RefusedError
from fardesk.screens import blank_screen, screen_text, size_of

MOST_FRAMES = 60


def is_key_frame(interval, number):
    """Return whether the frame with a number is a key frame."""
    # An interval beyond the range is no error: only 0 is a multiple of 0.
    if interval == 0:
        return number == 0
    return number % interval == 0


def contains(line, text):
    """Return whether a list of characters contains the characters of a text as neighbours."""
    for start in range(len(line) - len(text) + 1):
        if line[start:start + len(text)] == text:
            return True
    return False


def shows_text(screen, text):
    """Return whether some line of a screen contains a text."""
    for line in screen_text(screen):
        if contains(line, text):
            return True
    return False


class Tape:
    """A tape; `frames` are tuples (time, screen)."""

    def __init__(self, interval):
        self.interval = interval
        self.frames = []

    def add(self, time, screen):
        """Add a frame, and return how many there are then."""
        if self.frames and time < self.frames[-1][0]:
            raise RefusedError("time must not decrease")
        if len(self.frames) >= MOST_FRAMES:
            raise RefusedError("too many frames")
        self.frames.append((time, screen))
        return len(self.frames)

    def numbers(self):
        """Return the interval, the number of frames, and the time from the first to the last one."""
        length = 0
        if self.frames:
            length = self.frames[-1][0] - self.frames[0][0]
        return self.interval, len(self.frames), length

    def many_until(self, time):
        """Return how many frames have at most this time."""
        return len([frame for frame in self.frames if frame[0] <= time])

    def at(self, time):
        """Return the screen of the last frame that has at most this time."""
        many = self.many_until(time)
        if many == 0:
            raise RefusedError("no frame")
        return self.frames[many - 1][1]

    def play(self, start, end):
        """Return the list of the times and texts that lead from one time to another one."""
        if end < start:
            raise RefusedError("end is before start")
        first = self.many_until(start)
        if first == 0:
            raise RefusedError("no frame")
        return [self.step(number) for number in range(first, self.many_until(end))]

    def step(self, number):
        """Return the time of a frame, and the difference from the frame before it."""
        time, screen = self.frames[number]
        return time, difference(self.frames[number - 1][1], screen)

    def without_pauses(self, longest):
        """Return the tape in which each frame comes after the one before it by at most this time."""
        frames = []
        for number, (time, screen) in enumerate(self.frames):
            if number == 0:
                frames.append((time, screen))
            else:
                pause = time - self.frames[number - 1][0]
                frames.append((frames[-1][0] + min(pause, longest), screen))
        tape = Tape(self.interval)
        tape.frames = frames
        return tape

    def find(self, text):
        """Return the list of the numbers of the frames in which a text appears."""
        found = []
        shown = False
        for number, (_, screen) in enumerate(self.frames):
            before = shown
            shown = shows_text(screen, text)
            if shown and not before:
                found.append(number)
        return found

    def rows(self):
        """Return the list of the rows."""
        return [self.row_of(number) for number in range(len(self.frames))]

    def row_of(self, number):
        """Return the row of a frame."""
        time, screen = self.frames[number]
        if not is_key_frame(self.interval, number):
            return "next", time, difference(self.frames[number - 1][1], screen)
        rows, columns = size_of(screen)
        return "key", time, rows, columns, difference(blank_screen(rows, columns), screen)


def check_rows(interval, rows):
    """Raise the error for the first row that cannot stand where it stands."""
    for number, row in enumerate(rows):
        wrong_kind = (row[0] == "key") != is_key_frame(interval, number)
        if wrong_kind or (number > 0 and row[1] < rows[number - 1][1]):
            raise RefusedError(f"row {number}")


def read_tape(interval, rows):
    """Return the tape that has these rows."""
    check_rows(interval, rows)
    tape = Tape(interval)
    for row in rows:
        if row[0] == "key":
            _, time, height, width, text = row
            before = blank_screen(height, width)
        else:
            _, time, text = row
            before = tape.frames[-1][1]
        tape.add(time, applied(before, text))
    return tape
