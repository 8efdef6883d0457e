"""Programs: lists of rules that tell what is written when a character is read."""

from fardesk.chunks import are_numbers, is_number
from fardesk.errors import InvalidArgument

MOST_RULES = 40
MOST_STATE = 9
MOST_ANSWER = 30
MOST_CHARACTER = 255
# Stands in an answer for the character that was read.
SAME = 256


def is_rule(rule):
    """Return whether a value is a rule."""
    if not isinstance(rule, tuple) or len(rule) != 4:
        return False
    state, character, after, answer = rule
    if not is_number(state, MOST_STATE) or not is_number(after, MOST_STATE):
        return False
    if character is not None and not is_number(character, MOST_CHARACTER):
        return False
    return are_numbers(answer, MOST_ANSWER, SAME)


def filled(answer, character):
    """Return the text of an answer to a character."""
    text = []
    for number in answer:
        if number == SAME:
            number = character
        text.append(number)
    return text


class Program:
    """A program; its state is kept by whoever runs it."""

    def __init__(self, rules):
        if not isinstance(rules, (list, tuple)) or len(rules) > MOST_RULES:
            raise InvalidArgument("rules")
        for rule in rules:
            if not is_rule(rule):
                raise InvalidArgument("rules")
        self.rules = tuple(rules)

    def read(self, state, character):
        """Return the state after a character was read in a state, and the answer, a list."""
        for before, expected, after, answer in self.rules:
            if before == state and (expected is None or expected == character):
                return after, filled(answer, character)
        return state, []
