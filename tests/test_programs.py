import unittest

from fardesk.errors import InvalidArgument
from fardesk.programs import Program

RULE = (1, 65, 2, (66, 256))
BAD_RULES = (
    (), (1,), (1, 65, 2), (1, 65, 2, (66,), 0), [1, 65, 2, (66,)], None, 1, "rule", True,
    (-1, 65, 2, ()), (10, 65, 2, ()), (True, 65, 2, ()), (None, 65, 2, ()), ("1", 65, 2, ()),
    (1, -1, 2, ()), (1, 256, 2, ()), (1, True, 2, ()), (1, False, 2, ()), (1, "A", 2, ()), (1, (), 2, ()),
    (1, 65, -1, ()), (1, 65, 10, ()), (1, 65, False, ()), (1, 65, None, ()), (1, 65, "2", ()),
    (1, 65, 2, []), (1, 65, 2, [66]), (1, 65, 2, None), (1, 65, 2, 66), (1, 65, 2, "B"), (1, 65, 2, (-1,)),
    (1, 65, 2, (257,)), (1, 65, 2, (66, True)), (1, 65, 2, (None,)), (1, 65, 2, ("B",)), (1, 65, 2, ((66,),)),
    (1, 65, 2, (66,) * 31),
)


class TestReading(unittest.TestCase):
    def test_a_character(self):
        program = Program([(1, 65, 2, (66, 67))])
        self.assertEqual(program.read(1, 65), (2, [66, 67]))

    def test_no_rule_holds(self):
        program = Program([(1, 65, 2, (66, 67)), (4, None, 5, (1,))])
        for state, character in ((1, 66), (2, 65), (0, 65), (1, 0), (9, 255)):
            self.assertEqual(program.read(state, character), (state, []))
        for state in range(10):
            self.assertEqual(Program([]).read(state, 7), (state, []))

    def test_any_character(self):
        program = Program([(3, None, 0, (256,))])
        for character in range(256):
            self.assertEqual(program.read(3, character), (0, [character]))

    def test_the_character_in_several_places(self):
        program = Program([(0, None, 0, (256, 60, 256, 256, 62))])
        self.assertEqual(program.read(0, 200), (0, [200, 60, 200, 200, 62]))
        self.assertEqual(Program([(0, 7, 1, (256, 256))]).read(0, 7), (1, [7, 7]))

    def test_an_empty_answer(self):
        self.assertEqual(Program([(0, 7, 9, ())]).read(0, 7), (9, []))

    def test_the_first_rule_holds(self):
        rules = [(0, 65, 1, (1,)), (0, None, 2, (2,)), (0, 66, 3, (3,)), (0, 65, 4, (4,))]
        program = Program(rules)
        self.assertEqual([program.read(0, character) for character in (65, 66, 67)], [(1, [1]), (2, [2]), (2, [2])])
        program = Program(rules[::-1])
        self.assertEqual([program.read(0, character) for character in (65, 66, 67)], [(4, [4]), (3, [3]), (2, [2])])

    def test_reading_changes_nothing(self):
        program = Program([RULE])
        for _ in range(3):
            self.assertEqual(program.read(1, 65), (2, [66, 65]))

    def test_character_0(self):
        program = Program([(0, 0, 1, (256, 0)), (0, None, 2, ())])
        self.assertEqual(program.read(0, 0), (1, [0, 0]))
        self.assertEqual(program.read(0, 1), (2, []))


class TestRules(unittest.TestCase):
    def refused(self, rules):
        with self.assertRaises(InvalidArgument) as caught:
            Program(rules)
        self.assertEqual(caught.exception.name, "rules")

    def test_how_many(self):
        for many in (0, 1, 40):
            rules = [(1, 64 + place, 2, (place,)) for place in range(many)]
            for kind in (list, tuple):
                program = Program(kind(rules))
                for place in range(many):
                    self.assertEqual(program.read(1, 64 + place), (2, [place]))
        for kind in (list, tuple):
            self.refused(kind([RULE] * 41))
            self.refused(kind([RULE] * 100))

    def test_long_answers(self):
        self.assertEqual(Program([(0, 9, 0, (256,) * 30)]).read(0, 9), (0, [9] * 30))
        self.refused([(0, 9, 0, (256,) * 31)])

    def test_limits(self):
        for rule in ((0, 0, 0, ()), (9, 255, 9, (0, 255, 256)), (0, None, 9, (256,) * 30)):
            self.assertEqual(Program([rule]).read(rule[0], 255 if rule[1] is None else rule[1])[0], rule[2])

    def test_each_part_wrong(self):
        for rule in BAD_RULES:
            self.refused([rule])
            self.refused((RULE, rule))
            self.refused([rule, RULE])
            self.refused([RULE] * 40 + [rule])

    def test_neither_list_nor_tuple(self):
        for rules in (None, 1, "", "ab", {}, {1: RULE}):
            self.refused(rules)


class TestOwnership(unittest.TestCase):
    def test_rules_that_are_changed_later(self):
        rules = [RULE]
        program = Program(rules)
        self.assertEqual(rules, [RULE])
        rules[0] = (1, 65, 3, ())
        rules.insert(0, (1, None, 4, ()))
        self.assertEqual(program.read(1, 65), (2, [66, 65]))

    def test_answers_that_are_changed(self):
        program = Program((RULE,))
        for _ in range(2):
            _, answer = program.read(1, 65)
            self.assertEqual(answer, [66, 65])
            answer.append(1)
            answer[0] = 2
            program.read(1, 1)[1].append(3)
        self.assertEqual(program.read(1, 1), (1, []))
