"""Chunks of all kinds, and parts of them that are right and wrong."""

from fardesk.packets import Packet

GREATEST = 4294967295
COOKIE = (5, 9, (1, 2))

# The kinds of the parts of each chunk, by the name of the chunk in the order of the kind numbers.
PARTS = {
    "init": ("addresses",),
    "init_ack": ("addresses", "cookie"),
    "echo": ("cookie",),
    "echo_ack": (),
    "data": ("four", "stream", "four", "message codes"),
    "ack": ("four", "numbers"),
    "probe": (),
    "probe_ack": (),
    "addresses": ("four", "addresses"),
    "addresses_ack": ("four",),
    "gone": (),
    "abort": (),
    "shutdown": (),
    "shutdown_ack": (),
    "shutdown_done": (),
    "frame": ("four", "four", "four", "four", "frame codes"),
    "frame_ack": ("four",),
}

# Values that are no number at all, whatever the number is for.
NO_NUMBERS = (True, False, "1", "", "left", (), (1,), [1])

RIGHT = {
    "four": (0, 1, 255, 256, 65536, GREATEST),
    "stream": (0, 1, 15),
    "addresses": ((0,), (255,), (1, 2), (2, 1), (0, 1, 2, 3, 4, 255)),
    "cookie": ((0, 0, (0,)), (GREATEST, GREATEST, (6, 5, 4, 3, 2, 1)), (1, 2, (7,)), (3, 3, (3, 4))),
    "numbers": ((), (0,), (GREATEST,), (3, 5), (5, 3, 3), tuple(range(32)), (GREATEST,) * 32),
    "message codes": ((), (0,), (255,), (1, 2, 3), (7,) * 199, (255,) * 200),
    "frame codes": ((), (0,), (255,), (1, 2, 3), (7,) * 201, (7,) * 256, (255,) * 10000),
}

NO_ADDRESSES = (
    (), (1, 2, 3, 4, 5, 6, 7), (1, 1), (1, 2, 1), (1, 2, 3, 4, 5, 5), [1, 2], [], 1, None, True, "1", "12",
    (True,), (1, True), (False, 1), (None,), ("1",), (-1,), (256,), (1, 256), ((1,),), ([1],), (1, [2]), ((),), ("", 1),
)
NO_COOKIES = (
    (), (1, 2), ((1,),), (1, 2, (1,), 4), (1, 2, (1,), ()), [1, 2, (1,)], (1, 2, [1]), (1, 2, 3), (True, 2, (1,)), (1, True, (1,)),
    (None, 2, (1,)), (1, None, (1,)), (1, 2, None), ("1", 2, (1,)), (1, "2", (1,)), (1, 2, "1"), (-1, 2, (1,)),
    (1, -1, (1,)), (GREATEST + 1, 2, (1,)), (1, GREATEST + 1, (1,)), (1, 2, ()), (1, 2, (1, 1)), (1, 2, (256,)),
    (1, 2, (1, 2, 3, 4, 5, 6, 7)), (1, 2, True), ((1,), 2, (1,)), ([1], 2, (1,)), 1, None, True, "", "abc",
)


def wrong_rows(most, greatest):
    """Values that are no tuple of at most so many numbers from 0 to the greatest one."""
    return (
        (1,) * (most + 1), [1, 2], [], 1, None, True, "12", "", (True,), (1, False), (None,), (1, None), ("1",), (-1,),
        (1, -1), (greatest + 1,), (1, 2, greatest + 1), ((1,),), ([1],), ((),), (1, [], 2),
    )


WRONG = {
    "four": NO_NUMBERS + (None, -1, GREATEST + 1),
    "stream": NO_NUMBERS + (-1, 16, 255),
    "addresses": NO_ADDRESSES,
    "cookie": NO_COOKIES,
    "numbers": wrong_rows(32, GREATEST),
    "message codes": wrong_rows(200, 255),
    "frame codes": wrong_rows(10000, 255),
}


def right_chunk(name):
    """An ordinary chunk with a name."""
    return (name,) + tuple(RIGHT[part][1] for part in PARTS[name])


def chunks_of(name):
    """Chunks with a name: an ordinary one, and one for each right value of each part."""
    ordinary = right_chunk(name)
    chunks = [ordinary]
    for place, part in enumerate(PARTS[name], 1):
        chunks.extend(ordinary[:place] + (value,) + ordinary[place + 1:] for value in RIGHT[part])
    if name == "data":
        chunks.extend(("data", number, None, 0, codes) for number in (0, 7, GREATEST) for codes in ((), (1,) * 200))
    return chunks


def all_chunks():
    return [chunk for name in PARTS for chunk in chunks_of(name)]


def packet(chunk, sender="left"):
    """A packet with a chunk, all other parts of which are unlike."""
    return Packet(sender, 0x01020304, 0xA0B0C0D0, origin=17, goal=34, chunk=chunk)
