import inspect
import itertools
import re
import unittest

from matroidpick import notes
from matroidpick.errors import NoExchange, NoRule, NoThing, PickError
from matroidpick.making import any_of, turned
from matroidpick.notes import read, shown
from matroidpick.rules import Rule
from small_rules import small_tables


NUMBER = "(?:[0-9]|[1-9][0-9])"
CHOICE = f"(?:-|{NUMBER}(?: {NUMBER})*)"
FORM = f"{NUMBER}: {CHOICE}(?:, {CHOICE})*"
SIGNS = " \n\t\r+-,:.;_x0197\u0661\u00b2\u00a0"


def told(rule):
    return rule.count, rule.full, rule.size


def read_plainly(text):
    """What the text tells, straight from [18]."""
    if re.fullmatch(FORM, text) is None:
        raise NoRule("not of the form")
    count, choices = text.split(": ")
    return Rule(int(count), [[int(word) for word in choice.split() if word != "-"] for choice in choices.split(", ")])


def outcome(ask):
    """The rule that is told, or the kind of the refusal."""
    try:
        return told(ask())
    except PickError as refusal:
        return type(refusal)


class Interface(unittest.TestCase):
    def test_names_arguments_and_place(self):
        for name, names in {"shown": ["rule"], "read": ["text"]}.items():
            made = getattr(notes, name)
            self.assertEqual(made.__module__, "matroidpick.notes")
            self.assertEqual(list(inspect.signature(made).parameters), names)


class Shown(unittest.TestCase):
    def test_the_texts_of_the_document(self):
        self.assertEqual(shown(Rule(3, [[2, 1], [1, 0], [0, 2]])), "3: 0 1, 0 2, 1 2")
        self.assertEqual(shown(Rule(2, [[]])), "2: -")

    def test_the_rule_of_no_things(self):
        self.assertEqual(shown(Rule(0, [[]])), "0: -")

    def test_a_single_choice(self):
        self.assertEqual(shown(Rule(1, [[0]])), "1: 0")
        self.assertEqual(shown(Rule(3, [[2, 0, 1]])), "3: 0 1 2")

    def test_choices_are_ordered_as_lists(self):
        self.assertEqual(shown(Rule(12, [[11], [2], [10], [9]])), "12: 2, 9, 10, 11")
        self.assertEqual(shown(Rule(99, [[98, 2], [98, 10]])), "99: 2 98, 10 98")

    def test_the_kind_of_the_answer(self):
        self.assertIs(type(shown(Rule(2, [[]]))), str)

    def test_the_rule_stays_as_it_was(self):
        rule = Rule(3, [[1, 2], [0, 1]])
        shown(rule)
        self.assertEqual(told(rule), (3, [[0, 1], [1, 2]], 2))


class Read(unittest.TestCase):
    def test_the_texts_of_the_document(self):
        rule = read("3: 0 1, 0 2, 1 2")
        self.assertIs(type(rule), Rule)
        self.assertEqual(told(rule), (3, [[0, 1], [0, 2], [1, 2]], 2))
        self.assertEqual(told(read("2: -")), (2, [[]], 0))

    def test_what_is_written_is_read_to_the_same_rule(self):
        for count, table in small_tables(4):
            rule = Rule(count, table)
            again = read(shown(rule))
            self.assertIsNot(again, rule)
            self.assertEqual(told(again), told(rule))
        for rule in (any_of(11, 2), any_of(55, 1), turned(any_of(55, 1)), any_of(99, 99), any_of(99, 0), any_of(0, 0)):
            self.assertEqual(told(read(shown(rule))), told(rule))

    def test_choices_and_their_things_in_any_order(self):
        for choices in itertools.permutations(["1 0", "0 2", "2 1"]):
            self.assertEqual(told(read("3: " + ", ".join(choices))), (3, [[0, 1], [0, 2], [1, 2]], 2))

    def test_choices_more_than_once(self):
        self.assertEqual(told(read("3: 0 1, 1 0, 0 2, 0 1")), (3, [[0, 1], [0, 2]], 2))
        self.assertEqual(told(read("2: -, -, -")), (2, [[]], 0))

    def test_numbers_of_one_figure_and_of_two(self):
        self.assertEqual(told(read("10: 9")), (10, [[9]], 1))
        self.assertEqual(told(read("99: 98, 10, 0")), (99, [[0], [10], [98]], 1))
        self.assertEqual(told(read("20: 10 19 9")), (20, [[9, 10, 19]], 3))
        self.assertEqual(told(read("0: -")), (0, [[]], 0))
        self.assertEqual(told(read("9: -")), (9, [[]], 0))

    def test_other_texts_are_no_rule(self):
        wrong = [
            "", " ", "-", ":", ": ", "3", "3:", "3: ", "3 ", "3 0 1", "3:0 1", "3 : 0 1", "3:  0 1", ": 0 1", ": -",
            "-: -", "3; 0 1", "3:\t0 1", "3:\n0 1", "\t3: 0 1", "3\t: 0 1", "3: 0 1: 0 2", "3: 3: 0 1", "3: : 0 1",
            "3: 0 1,0 2", "3: 0 1 ,0 2", "3: 0 1 , 0 2", "3: 0 1,  0 2", "3: 0 1,\t0 2", "3: 0 1,\n0 2", "3: 0 1,",
            "3: 0 1, ", "3: , 0 1", "3: 0 1, , 0 2", "3: 0 1,, 0 2", "3: ,", "3: , ",
            "3: 0  1", "3: 0\t1", "3: 0\n1", "3: 0-1", "3: 0 - 1", "3: 0 -", "3: - 0", "3: --", "3: - -", "3: -,-",
            "2: - ", "2:  -", "2: -\n", "2: -,", "2: -, ", "2: +", "2: _",
            "3: 0 1 ", " 3: 0 1", "3: 0 1\n", "\n3: 0 1", "3: 0 1\r", "3: 0 1\t", "3: 0 1\r\n",
            "3: +0 1", "3: 0 +1", "3: -0 1", "3: 0 -1", "+3: 0 1", "-3: 0 1", "3: 0 1.0", "3.0: 0 1", "3: 0 1_",
            "03: 0 1", "00: -", "3: 00 1", "3: 0 01", "3: 0 1, 0 02", "003: 0 1",
            "100: 0 1", "100: -", "999: 0", "100: 100", "3: 0 100", "3: 100", "3: 0 1, 0 010",
            "3: a", "a: 0", "3: 0 x", "3: 0 1, x", "0x3: 0", "3: 0b1", "1_0: 0", "12: 1_1", "3: [0, 1]", "3: 0, 1;",
            "3: 0 1\u00a0", "3:\u00a00 1", "3: 0\u00a01", "3: \u0661", "\u0663: 0", "3: \u00b2", "\u00b3: 0",
            "3: \uff11", "3: 0 1\x00", "3: 0\u2002\u0031", "\ufeff3: 0 1", "3: \u2212",
        ]
        for text in wrong:
            with self.subTest(text), self.assertRaises(NoRule):
                read(text)

    def test_a_sign_more_or_less_or_another_at_any_place(self):
        for text in ("3: 0 1, 0 2", "12: 0 11, 1 11", "2: -", "0: -", "10: 9, 0"):
            for at in range(len(text) + 1):
                self.compare(text[:at] + text[at + 1:])
                for sign in SIGNS:
                    self.compare(text[:at] + sign + text[at:])
                    self.compare(text[:at] + sign + text[at + 1:])

    def test_every_short_text_of_the_signs_that_may_stand(self):
        for many in range(7):
            for signs in itertools.product("01-:, ", repeat=many):
                self.compare("".join(signs))

    def compare(self, text):
        self.assertEqual(outcome(lambda: read(text)), outcome(lambda: read_plainly(text)), repr(text))

    def test_two_signs_the_other_way_round(self):
        for text in ("3 :0 1, 0 2", "3: 0 1 ,0 2", ":3 0 1, 0 2", "3:0 1,  0 2"):
            with self.assertRaises(NoRule):
                read(text)

    def test_a_text_that_is_right_in_form_but_no_rule(self):
        for text in ("3: 3", "3: 0 3", "0: 0", "3: 99", "3: 0 0", "3: 1 2 1", "3: 0 1, 2 2"):
            with self.subTest(text), self.assertRaises(NoThing):
                read(text)
        for text in ("4: 0 1, 2 3", "3: 0, 1 2", "2: -, 0", "2: 0, -", "2: 0, 0 1"):
            with self.subTest(text), self.assertRaises(NoExchange):
                read(text)

    def test_no_thing_is_refused_ahead_of_a_missing_exchange(self):
        with self.assertRaises(NoThing):
            read("4: 0 1, 2 3, 4")
        with self.assertRaises(NoThing):
            read("4: 0 1, 2 3, 1 1")

    def test_the_form_is_refused_ahead_of_the_rule(self):
        for text in ("3: 3, 03", "3: 0 0, 0  1", "4: 0 1, 2 3,", "4: 0 1, 2 3\n", "0: 0, x", "3: 99, 100"):
            with self.subTest(text), self.assertRaises(NoRule):
                read(text)

    def test_reading_again_makes_a_rule_of_its_own(self):
        first = read("2: 0, 1")
        first.full[0].append(9)
        first.full.pop()
        self.assertEqual(told(read("2: 0, 1")), (2, [[0], [1]], 1))


if __name__ == "__main__":
    unittest.main()
