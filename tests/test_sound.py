"""Points 1, 14 to 18 and 20 over whole programs, many of them made up: those that pass come to no fault."""

import copy
import random
import re
import unittest

from soothcheck.checking import check, found_kind
from soothcheck.kinds import shown_kind
from soothcheck.reading import read, read_kind
from soothcheck.running import run
from soothcheck.telling import shown
from soothcheck.values import is_of
from tests.random_programs import some_kind, some_program, some_standing, some_value

PLENTY = 20000


class MadeUp(unittest.TestCase):

    @classmethod
    def setUpClass(cls):
        source = random.Random(20)
        cls.source = source
        cls.programs = [some_program(source) for _ in range(300)]
        cls.passing = [program for program in cls.programs if program and check(program) == []]

    def test_most_pass_and_have_each_word(self):
        self.assertGreater(len(self.passing), 200)
        text = "\n".join(shown(program) for program in self.passing)
        # What is told behind def is no call.
        words = re.findall("([@a-z]+)[<(]", text.replace("def ", "@"))
        for word in ("norow", "nobook", "get", "plus", "minus", "join", "size", "push", "at", "put", "look", "let", "each",
                     "fold", "if", "is", "has"):
            self.assertGreater(words.count(word), 9, word)
        self.assertGreater(words.count("f") + words.count("g"), 20)

    def test_those_that_pass_come_to_no_fault(self):
        endings = 0
        for program in self.passing:
            for name, letters, params, result, _ in program:
                found = found_kind(program, name)
                for _ in range(4):
                    standing = some_standing(self.source, dict(letters))
                    told = [some_value(self.source, kind, standing) for _, kind in params]
                    if None not in told:
                        endings += 1
                        self.look_at_run(program, name, told, found, result, standing)
        self.assertGreater(endings, 1500)

    def look_at_run(self, program, name, told, found, result, standing):
        where = (shown(program), name, told, standing)
        before = copy.deepcopy((program, told))
        ending = run(program, name, told, PLENTY)
        self.assertEqual(ending[0], "value", where)
        self.assertTrue(is_of(ending[1], found, standing), where)
        self.assertTrue(is_of(ending[1], result, standing), where)
        # Just the breath that it takes, and one less.
        takes = PLENTY - ending[2]
        self.assertGreater(takes, 0)
        self.assertEqual(run(program, name, told, takes), ("value", ending[1], 0), where)
        self.assertEqual(run(program, name, told, takes - 1), ("tired",), where)
        self.assertEqual((program, told), before, where)

    def test_those_that_do_not_pass_show_why(self):
        shown_by = 0
        for program in self.programs:
            # Other results than the bodies' own.
            changed = [(name, letters, params, some_kind(self.source, 1, [letter for letter, _ in letters]), body)
                       for name, letters, params, _, body in program]
            for name, found, due, value, standing in check(changed):
                shown_by += 1
                self.assertIn(name, [function[0] for function in program])
                self.assertTrue(is_of(value, found, standing))
                self.assertFalse(is_of(value, due, standing))
        self.assertGreater(shown_by, 100)

    def test_told_and_read(self):
        for program in self.programs:
            text = shown(program)
            if len(text) <= 6000:
                again = read(text)
                self.assertEqual(again, program)
                self.assertEqual(shown(again), text)

    def test_kinds_told_and_read(self):
        for _ in range(500):
            kind = some_kind(self.source, self.source.choice([0, 1, 2, 3]), ["A", "BC"])
            text = shown_kind(kind)
            if len(text) <= 6000:
                self.assertEqual(read_kind(text), kind)
                self.assertEqual(shown_kind(read_kind(text)), text)

    def test_asked_again(self):
        def answers(program):
            told = [shown(program), check(program)]
            for name, letters, params, _, _ in program:
                values = [some_value(random.Random(1), kind, {letter: [] for letter, _ in letters}) for _, kind in params]
                told.append(run(program, name, values, 300) if None not in values else None)
            return told
        first = [copy.deepcopy(answers(program)) for program in self.programs]
        again = [answers(program) for program in reversed(self.programs)]
        self.assertEqual(first, list(reversed(again)))


if __name__ == "__main__":
    unittest.main()
