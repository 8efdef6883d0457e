"""The names, arguments and places of everything that the document lists, and what it excludes."""

import ast
import importlib
import inspect
import unittest
from pathlib import Path

PACKAGE = Path(__file__).resolve().parent.parent / "fardesk"

# The functions of each module, with their arguments; a * stands before those that are passed by keyword.
FUNCTIONS = {
    "characters": ("codes(string)", "kind_of(character)", "width_of(character)", "is_printable(text)", "digits(number)"),
    "styles": ("kind_of_number(number)", "is_style(style)", "styled(style, number)", "turned(style, numbers)",
               "style_text(style)"),
    "lines": ("blank_line(columns)", "is_line(cells)", "cut_at(line, column)", "put(line, column, character, style)",
              "erased(line, start, end)", "inserted(line, column, many)", "deleted(line, column, many)",
              "fitted(line, columns)", "line_text(line)"),
    "screens": ("blank_screen(rows, columns)", "is_screen(value)", "resized(screen, rows, columns)", "screen_text(screen)"),
    "scanner": ("scan(state, character)",),
    "keys": ("is_key(value)", "key_text(key, application)", "pasted_text(text, bracketing)"),
    "terminals": ("showing(screen)",),
    "differences": ("difference(old, new)", "applied(screen, text)"),
    "tapes": ("read_tape(interval, rows)",),
    "octets": ("two_octets(n)", "four_octets(n)"),
    "chunks": ("is_number(n, most)", "is_codes(row, most)", "are_addresses(row)", "is_cookie(row)", "is_chunk(chunk)"),
    "packets": ("other_side(side)", "packet_octets(packet)"),
    "reading": ("read_packet(octets)",),
    "associations": ("of_stream(messages, stream)", "next_message(association, stream, codes)"),
    "sending": ("release(association, window)", "in_flight(association)", "is_acked(association, number)",
                "take_ack(association, up_to, beyond)", "fate_of(association, number)", "report_of(association, ended)"),
    "delivering": ("is_new(association, number, window)", "take_message(association, row)"),
    "keyforms": ("key_codes(key)", "key_of(codes)"),
    "desks": ("run_keys(program, keys, *, rows, columns)",),
    "homeward": ("bring_home(session, here, there)", "is_pair(session, here, there)"),
}
CLASSES = {
    "terminals.Terminal(rows, columns)": (
        "write(text)", "screen()", "modes()", "is_plain()", "resize(rows, columns)", "history()", "press(key)", "paste(text)"),
    "states.Teller(screen)": ("tell(screen, echo)", "datagram()", "acknowledge(number)", "numbers()", "kept()"),
    "states.Hearer(screen)": ("hear(datagram)", "numbers()", "screen()", "kept()"),
    "foretelling.Foreteller(screen)": ("press(key)", "update(screen, echo)", "numbers()", "screen()"),
    "tapes.Tape(interval)": ("add(time, screen)", "numbers()", "at(time)", "play(start, end)", "without_pauses(longest)",
                             "find(text)", "rows()"),
    "octets.OctetReader(octets)": ("place()", "one()", "two()", "four()", "limited(most)", "many(size)", "fours(size)",
                                   "finish()"),
    "packets.Packet(sender, source, target, *, origin, goal, chunk)": ("as_row()", "answer(source, target, chunk)"),
    "associations.Association(tag, peer, paths)": ("message(number)", "has_tags(tag, peer)", "all_acked()"),
    "network.Network(left, right, window)": (
        "open_end(side, address)", "give(side, stream, codes)", "packet(place)", "deliver(place)", "time_out(side)",
        "probe(side)", "set_addresses(side, own)", "finish(side)", "abort(side)", "restart(side)",
        "send_frame(side, numbers, codes)", "answer_frame(place, number)", "packets_sent()", "has_room()", "status(side)",
        "association(side)", "given(side)", "received(side)", "reports(side)"),
    "programs.Program(rules)": ("read(state, character)",),
    "desks.Desk(program, rows, columns)": ("press(key)", "screen()", "state()", "done()"),
    "seats.Seat(rows, columns)": ("begin()", "press(key)", "hear(datagram)", "sure()", "shown()", "numbers()", "guesses()"),
    "sessions.Session(program, *, rows=4, columns=12, seat=(1,), desk=(2,), window=8)": (
        "connect(side, address)", "probe(side)", "set_addresses(side, own)", "finish(side)", "abort(side)", "restart(side)",
        "packets_sent()", "packet(place)", "status(side)", "association(side)", "reports(side)", "press(key)",
        "deliver(place)", "time_out(side)", "desk_screen()", "sure()", "shown()", "guesses()", "echo()", "typed()",
        "done()", "looks()"),
}
ERRORS = {
    "InvalidArgument": "name", "RefusedError": "reason", "MalformedPacket": "place", "NoSuchPacket": "place",
    "TooManyPackets": None, "TooManyMessages": None, "NotClosed": None, "AlreadyClosed": None, "NoAssociation": None,
    "AssociationClosing": None, "NoWay": None,
}
# Clocks, random numbers, files, networks and what could bring them in.
BARRED_CALLS = ("open", "input", "print", "eval", "exec", "compile", "globals", "vars")


def module(name):
    return importlib.import_module("fardesk." + name)


class TestInterface(unittest.TestCase):
    def test_functions(self):
        for name, told in FUNCTIONS.items():
            for line in told:
                function = getattr(module(name), line.partition("(")[0])
                self.assertTrue(inspect.isfunction(function), line)
                self.assertEqual(function.__name__ + str(inspect.signature(function)), line)
                self.assertEqual(function.__module__, "fardesk." + name)

    def test_classes(self):
        for line, methods in CLASSES.items():
            name, _, rest = line.partition(".")
            made = getattr(module(name), rest.partition("(")[0])
            self.assertEqual(made.__module__, "fardesk." + name)
            self.assertEqual(made.__name__ + str(inspect.signature(made)), rest)
            for method in methods:
                # Each method is defined in the class itself.
                function = made.__dict__[method.partition("(")[0]]
                self.assertTrue(inspect.isfunction(function), method)
                arguments = str(inspect.signature(function)).replace("(self, ", "(").replace("(self)", "()")
                self.assertEqual(function.__name__ + arguments, method)

    def test_errors(self):
        errors = module("errors")
        self.assertEqual(errors.DeskError.__bases__, (ValueError,))
        for name, attribute in ERRORS.items():
            error = getattr(errors, name)
            self.assertEqual((error.__bases__, error.__module__), ((errors.DeskError,), "fardesk.errors"))
            if attribute is not None:
                self.assertEqual(getattr(error("word"), attribute), "word")

    def test_attributes_of_packets_and_associations(self):
        packet = module("packets").Packet("left", 1, 2, origin=3, goal=4, chunk=("gone",))
        self.assertLessEqual({"sender", "source", "target", "origin", "goal", "chunk"}, set(vars(packet)))
        association = module("associations").Association(1, 2, [3])
        attributes = {"tag", "peer", "paths", "given", "waiting", "delivered", "sent", "acked", "up_to", "beyond",
                      "arrived", "closing"}
        self.assertLessEqual(attributes, set(vars(association)))


class TestWhatThePackageIsNot(unittest.TestCase):
    def trees(self):
        return [(path, ast.parse(path.read_text())) for path in sorted(PACKAGE.glob("*.py"))]

    def test_it_uses_nothing_from_outside(self):
        for path, tree in self.trees():
            for node in ast.walk(tree):
                self.assertNotIsInstance(node, ast.Import, path)
                if isinstance(node, ast.ImportFrom):
                    self.assertTrue(node.module.startswith("fardesk."), path)
                if isinstance(node, ast.Call) and isinstance(node.func, ast.Name):
                    self.assertNotIn(node.func.id, BARRED_CALLS, path)

    def test_each_module_can_be_imported_alone(self):
        for path, tree in self.trees():
            # No statement at module level does anything but define.
            for node in tree.body[1:]:
                self.assertIsInstance(node, ast.ImportFrom | ast.FunctionDef | ast.ClassDef | ast.Assign, path)
            importlib.import_module("fardesk" if path.stem == "__init__" else "fardesk." + path.stem)

    def test_the_package_itself_has_no_names(self):
        self.assertEqual(len(ast.parse((PACKAGE / "__init__.py").read_text()).body), 1)
