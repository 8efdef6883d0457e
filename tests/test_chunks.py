import unittest

from fardesk.chunks import are_addresses, is_chunk, is_codes, is_cookie, is_number
from tests.samples import (
    COOKIE, GREATEST, NO_ADDRESSES, NO_COOKIES, NO_NUMBERS, PARTS, RIGHT, WRONG, all_chunks, right_chunk,
)

ODD_VALUES = (
    None, True, False, 0, 1, 15, 255, -1, GREATEST, "", "init", "gone", "left", (), [], ((),), ([],), [()], [[]], (None,),
    (True,), (0,), (1, 2), ("",), (((),), []), [1, [2, (3,)]], ("init", "init"), (["init"], (1,)), (("init",), (1,)),
)


class PredicateCase(unittest.TestCase):
    def holds(self, answer):
        self.assertIs(answer, True)

    def fails(self, answer, value=None):
        self.assertIs(answer, False, value)


class TestNumbers(PredicateCase):
    def test_bounds(self):
        for most in (0, 1, 6, 15, 255, GREATEST):
            self.holds(is_number(0, most))
            self.holds(is_number(most, most))
            self.fails(is_number(-1, most))
            self.fails(is_number(most + 1, most))
        self.holds(is_number(7, 255))

    def test_what_is_no_number(self):
        for value in NO_NUMBERS + (None, [], [[]], ([],)):
            self.fails(is_number(value, 255), value)


class TestCodes(PredicateCase):
    def test_lengths(self):
        for most in (0, 1, 200, 10000):
            self.holds(is_codes((7,) * most, most))
            self.holds(is_codes((), most))
            self.fails(is_codes((7,) * (most + 1), most))

    def test_octets(self):
        self.holds(is_codes((0, 255, 7, 7), 200))
        for wrong in (-1, 256, True, False, None, "a", "", (), (1,), [], [1]):
            for row in ((wrong,), (1, wrong), (wrong, 1), (1, wrong, 1)):
                self.fails(is_codes(row, 200), row)

    def test_what_is_no_tuple(self):
        for value in (None, True, 0, 1, "", "ab", [], [1], [1, 2]):
            self.fails(is_codes(value, 200), value)


class TestAddresses(PredicateCase):
    def test_addresses(self):
        for value in RIGHT["addresses"] + ((0, 255), (1, 2, 3, 4, 5), (6, 5, 4, 3, 2, 1)):
            self.holds(are_addresses(value))

    def test_what_are_none(self):
        for value in NO_ADDRESSES:
            self.fails(are_addresses(value), value)


class TestCookies(PredicateCase):
    def test_cookies(self):
        for value in RIGHT["cookie"] + (COOKIE, (0, GREATEST, (0,)), (GREATEST, 0, (255,))):
            self.holds(is_cookie(value))

    def test_what_is_none(self):
        for value in NO_COOKIES:
            self.fails(is_cookie(value), value)

    def test_wrong_addresses(self):
        for value in NO_ADDRESSES:
            self.fails(is_cookie((1, 2, value)), value)


class TestChunks(PredicateCase):
    def test_each_kind(self):
        self.assertEqual(len(PARTS), 17)
        for chunk in all_chunks():
            self.holds(is_chunk(chunk))

    def test_examples(self):
        for chunk in (("init", (1, 2)), ("init_ack", (7,), (1, 1, (1, 2))), ("echo", (1, 1, (1,))), ("echo_ack",),
                      ("data", 1, 0, 0, (0, 97)), ("data", 2, None, 0, ()), ("ack", 3, (5, 7)), ("probe",),
                      ("probe_ack",), ("addresses", 1, (3,)), ("addresses_ack", 1), ("gone",), ("abort",),
                      ("shutdown",), ("shutdown_ack",), ("shutdown_done",), ("frame", 1, 0, 1, 0, (27, 91)),
                      ("frame_ack", 1)):
            self.holds(is_chunk(chunk))

    def test_a_wrong_part(self):
        for name, parts in PARTS.items():
            chunk = right_chunk(name)
            for place, part in enumerate(parts, 1):
                for value in WRONG[part]:
                    self.fails(is_chunk(chunk[:place] + (value,) + chunk[place + 1:]), (name, place, value))

    def test_a_part_missing(self):
        for name in PARTS:
            chunk = right_chunk(name)
            for place in range(len(chunk)):
                self.fails(is_chunk(chunk[:place] + chunk[place + 1:]), (name, place))

    def test_a_part_more(self):
        for name in PARTS:
            chunk = right_chunk(name)
            for more in (0, 1, None, True, (), (1,), "", (1, 2, (3,)), []):
                self.fails(is_chunk(chunk + (more,)), (name, more))
                if len(chunk) > 1:
                    self.fails(is_chunk(chunk[:1] + (more,) + chunk[1:]), (name, more))

    def test_a_list_in_place_of_the_chunk(self):
        for name in PARTS:
            self.fails(is_chunk(list(right_chunk(name))), name)

    def test_other_names(self):
        for name in ("", "INIT", "ini", "init ", "message", "frame ack", "close", 0, 4, None, True, ("init",), ["init"], ()):
            for parts in ((), ((1,),), (1,), ((1, 2, (3,)),)):
                self.fails(is_chunk((name,) + parts), name)

    def test_one_name_with_the_parts_of_another_one(self):
        for name, parts in PARTS.items():
            for other, other_parts in PARTS.items():
                # One address alone can also be a number that is acknowledged.
                if parts != other_parts and {name, other} != {"ack", "addresses"}:
                    self.fails(is_chunk((name,) + right_chunk(other)[1:]), (name, other))

    def test_streams(self):
        for stream in range(16):
            self.holds(is_chunk(("data", 1, stream, 0, ())))
            self.holds(is_chunk(("data", 1, stream, GREATEST, ())))
        for stream in (16, 17, 254, 255, 256, -1):
            self.fails(is_chunk(("data", 1, stream, 0, ())))

    def test_unordered_messages(self):
        self.holds(is_chunk(("data", 1, None, 0, (1,))))
        for place in (1, 2, GREATEST, -1, True, False, None, "", ()):
            self.fails(is_chunk(("data", 1, None, place, (1,))), place)

    def test_lengths(self):
        self.holds(is_chunk(("data", 1, 0, 0, (1,) * 200)))
        self.fails(is_chunk(("data", 1, 0, 0, (1,) * 201)))
        self.holds(is_chunk(("frame", 1, 0, 1, 0, (1,) * 10000)))
        self.fails(is_chunk(("frame", 1, 0, 1, 0, (1,) * 10001)))
        self.holds(is_chunk(("ack", 1, (1,) * 32)))
        self.fails(is_chunk(("ack", 1, (1,) * 33)))

    def test_odd_values(self):
        for value in ODD_VALUES:
            self.fails(is_chunk(value), value)
            self.assertIsInstance(is_codes(value, 5), bool)
            self.assertIsInstance(are_addresses(value), bool)
            self.fails(is_cookie(value), value)
            self.assertIsInstance(is_number(value, 5), bool)
