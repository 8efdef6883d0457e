"""Screens, keys and texts that are drawn: the same ones in each run."""

import random

from fardesk.lines import blank_line
from fardesk.screens import resized

STYLES = ((), (), (1,), (4,), (7,), (31,), (42,), (1, 4, 7, 37, 47))
NARROW = (32, 33, 65, 97, 126, 160, 191)
WIDE = (192, 223, 255)
# Pieces of which texts are made that do many things to a terminal, also unfinished ones.
PIECES = (
    "\x1b", "\x1b[", "\x1b]", "\x1b]0;", "\x1b]2;t\x07", "\x07", "\x18", "0", "2;3", ";", "?", "m", "1m", "H", "K", "J",
    "[2J", "\x1b[8;3;7t", "\x1b[8;12;40t", "\x1b[8;1;2t", "\x1b[?1049h", "\x1b[?1049l", "\x1b[?6h", "\x1b[?7l",
    "\x1b[4h", "\x1b[2;3r", "\x1bM", "\x1bD", "\x1bc", "\x1b7", "\x1b8", "\n", "\r", "\t", "\x08", "\x7f", "\x9b",
    "a", "xyz", "\xc4", "\xff\xc0", " ", "\xa0", "@", "P", "\x1b[3L", "\x1b[M", "\x1b[?25l", "\x1b[?25h", "\\",
)


def chances(number):
    return random.Random(number)


def drawn_line(chance, columns):
    """A line of runs: blank cells, spaces with a style, narrow and wide characters."""
    cells = []
    while len(cells) < columns:
        style = chance.choice(STYLES)
        kind = chance.randrange(4)
        for _ in range(chance.randrange(1, 6)):
            if kind == 0:
                cells.append((32, ()))
            elif kind == 1 and len(cells) + 2 <= columns:
                cells.extend(((chance.choice(WIDE), style), (0, style)))
            else:
                cells.append((chance.choice(NARROW), style))
    if cells[columns - 1:columns + 1] and cells[columns - 1][0] >= 192:
        cells[columns - 1] = (32, ())
    return tuple(cells[:columns])


def drawn_title(chance):
    return tuple(chance.choice(NARROW + WIDE) for _ in range(chance.choice((0, 0, 1, 5, 40))))


def drawn_screen(chance, rows, columns):
    lines = tuple(drawn_line(chance, columns) for _ in range(rows))
    cursor = (chance.randrange(rows), chance.randrange(columns))
    return lines, cursor, chance.random() < 0.7, drawn_title(chance)


def drawn_size(chance):
    return chance.choice((1, 2, 3, 12, chance.randrange(1, 13))), chance.choice((2, 3, 8, 40, chance.randrange(2, 41)))


def neighbour(chance, screen):
    """A screen with a few changes of another one: some lines, the cursor, the title, the visibility, the size."""
    if chance.random() < 0.2:
        screen = resized(screen, *drawn_size(chance))
    lines, cursor, visible, title = screen
    rows, columns = len(lines), len(lines[0])
    lines = list(lines)
    for _ in range(chance.randrange(3)):
        row = chance.randrange(rows)
        lines[row] = chance.choice((lines[0], blank_line(columns), drawn_line(chance, columns)))
    if chance.random() < 0.5:
        cursor = (chance.randrange(rows), chance.randrange(columns))
    if chance.random() < 0.2:
        visible = not visible
    if chance.random() < 0.2:
        title = drawn_title(chance)
    return tuple(lines), cursor, visible, title


def drawn_text(chance, many):
    """A text of so many pieces."""
    return [ord(sign) for _ in range(many) for sign in chance.choice(PIECES)]
