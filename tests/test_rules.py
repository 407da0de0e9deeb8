import copy
import inspect
import itertools
import unittest

from matroidpick import rules
from matroidpick.errors import NoChoice, NoExchange, NoThing
from matroidpick.rules import Rule
from small_rules import is_right, rows_of, sized, small_tables, tables_of

FAR = 10 ** 5000


def outs_told(table, choice, thing):
    """The outs straight from [7]."""
    full = [set(held) for held in table]
    return [out for out in sorted(choice) if set(choice) - {out} | {thing} in full]


class Interface(unittest.TestCase):
    def test_names_arguments_and_place(self):
        told = {
            "__init__": ["self", "count", "table"],
            "together": ["self", "things"],
            "rank": ["self", "things"],
            "outs": ["self", "choice", "thing"],
            "exchanges": ["self", "choice"],
        }
        self.assertEqual(rules.Rule.__module__, "matroidpick.rules")
        for name, names in told.items():
            with self.subTest(name):
                self.assertIn(name, vars(Rule))
                self.assertEqual(list(inspect.signature(getattr(Rule, name)).parameters), names)

    def test_the_fields_are_set_on_each_object(self):
        rule = Rule(2, [[0], [1]])
        for name in ("count", "full", "size"):
            self.assertIn(name, vars(rule))


class OrdinaryTables(unittest.TestCase):
    def told(self, rule):
        return rule.count, rule.full, rule.size

    def test_any_two_of_three(self):
        rule = Rule(3, [[0, 1], [0, 2], [1, 2]])
        self.assertEqual(self.told(rule), (3, [[0, 1], [0, 2], [1, 2]], 2))

    def test_one_of_each_of_two_pairs(self):
        rule = Rule(4, [[0, 2], [0, 3], [1, 2], [1, 3]])
        self.assertEqual(self.told(rule), (4, [[0, 2], [0, 3], [1, 2], [1, 3]], 2))

    def test_choices_and_things_in_any_order(self):
        for choices in itertools.permutations([[1, 0], [0, 2], [2, 1]]):
            rule = Rule(3, list(choices))
            self.assertEqual(self.told(rule), (3, [[0, 1], [0, 2], [1, 2]], 2))

    def test_choices_are_ordered_as_lists_not_as_texts(self):
        rule = Rule(12, [[10], [9], [2], [11]])
        self.assertEqual(self.told(rule), (12, [[2], [9], [10], [11]], 1))
        rule = Rule(12, [[10, 2], [9, 2], [11, 2]])
        self.assertEqual(rule.full, [[2, 9], [2, 10], [2, 11]])

    def test_a_choice_told_twice_counts_once(self):
        rule = Rule(3, [[2, 0], [0, 1], [0, 2], [1, 0], [2, 0]])
        self.assertEqual(self.told(rule), (3, [[0, 1], [0, 2]], 2))
        self.assertEqual(self.told(Rule(2, [[], []])), (2, [[]], 0))

    def test_the_rule_of_no_things(self):
        self.assertEqual(self.told(Rule(0, [[]])), (0, [[]], 0))
        self.assertEqual(self.told(Rule(0, [[], []])), (0, [[]], 0))

    def test_the_one_full_choice_that_is_empty(self):
        self.assertEqual(self.told(Rule(3, [[]])), (3, [[]], 0))

    def test_the_one_full_choice_that_has_all(self):
        self.assertEqual(self.told(Rule(3, [[2, 0, 1]])), (3, [[0, 1, 2]], 3))

    def test_the_last_thing_below_the_count(self):
        self.assertEqual(self.told(Rule(99, [[98], [0]])), (99, [[0], [98]], 1))

    def test_as_many_choices_and_things_as_are_told(self):
        rule = Rule(11, sized(11, 2))
        self.assertEqual(self.told(rule), (11, sized(11, 2), 2))
        ahead = list(range(88))
        rows = [ahead + [88 + thing for thing in row] for row in sized(11, 9)]
        self.assertEqual(self.told(Rule(99, rows[::-1])), (99, rows, 97))

    def test_every_rule_of_few_things(self):
        for count, table in small_tables(4):
            with self.subTest(count=count, table=table):
                rule = Rule(count, [choice[::-1] for choice in table[::-1]])
                self.assertEqual(self.told(rule), (count, table, len(table[0])))

    def test_there_are_as_many_rules_of_few_things_as_is_known(self):
        self.assertEqual([len(tables_of(count)) for count in range(5)], [1, 2, 5, 16, 68])


class Refusals(unittest.TestCase):
    def test_an_empty_table(self):
        for count in (0, 1, 99):
            with self.assertRaises(NoChoice):
                Rule(count, [])

    def test_what_is_no_thing(self):
        for thing in (-1, -2, 3, 4, 99, 10 ** 12, FAR, -FAR):
            for table in ([[thing]], [[0], [thing]], [[thing], [0]], [[0, 1], [0, thing]], [[thing, 0]]):
                with self.assertRaises(NoThing):
                    Rule(3, table)
        with self.assertRaises(NoThing):
            Rule(0, [[0]])
        with self.assertRaises(NoThing):
            Rule(0, [[], [0]])

    def test_a_thing_twice(self):
        for table in ([[0, 0]], [[0, 1], [1, 1]], [[2, 0, 2]], [[0, 1], [0, 2], [2, 1, 2]]):
            with self.assertRaises(NoThing):
                Rule(3, table)

    def test_an_exchange_that_is_missing(self):
        wrong = [
            [[0, 1], [2, 3]],
            [[2, 3], [0, 1]],
            [[0, 1], [0, 2], [1, 3], [2, 3], [0, 1, 2]],
            [[]] + [[0]],
            [[0], [0, 1]],
            [[0, 1], [0]],
            [[0, 1], [2]],
            [[0, 1], [1, 2], [2, 3]],
        ]
        for table in wrong:
            with self.subTest(table), self.assertRaises(NoExchange):
                Rule(4, table)

    def test_every_set_of_choices_of_three_things(self):
        choices = rows_of(3)
        for many in range(1, len(choices) + 1):
            for table in itertools.combinations(choices, many):
                if is_right(table):
                    self.assertEqual(Rule(3, list(table)).full, sorted(table))
                else:
                    with self.assertRaises(NoExchange):
                        Rule(3, list(table))

    def test_every_set_of_pairs_of_four_things(self):
        pairs = sized(4, 2)
        for many in range(1, len(pairs) + 1):
            for table in itertools.combinations(pairs, many):
                if is_right(table):
                    self.assertEqual(Rule(4, list(table)).full, list(table))
                else:
                    with self.assertRaises(NoExchange):
                        Rule(4, list(table))

    def test_no_thing_is_refused_ahead_of_a_missing_exchange(self):
        with self.assertRaises(NoThing):
            Rule(4, [[0, 1], [2, 3], [0, 4]])
        with self.assertRaises(NoThing):
            Rule(4, [[0, 1], [2, 3], [-1, 0]])
        with self.assertRaises(NoThing):
            Rule(4, [[0, 1], [2, 3], [1, 1]])
        with self.assertRaises(NoThing):
            Rule(4, [[0, 1], [2], [1, 1]])

    def test_a_refusal_leaves_nothing_behind_it(self):
        table = [[2, 3], [1, 0]]
        with self.assertRaises(NoExchange):
            Rule(4, table)
        self.assertEqual(table, [[2, 3], [1, 0]])
        table = [[1, 0], [2, 4]]
        with self.assertRaises(NoThing):
            Rule(4, table)
        self.assertEqual(table, [[1, 0], [2, 4]])
        self.assertEqual(Rule(4, [[0], [1]]).full, [[0], [1]])

    def test_a_rule_stays_as_it_was_behind_a_refusal(self):
        rule = Rule(3, [[0, 1], [0, 2]])
        for ask in (lambda: rule.rank([3]), lambda: rule.together([0, 0]), lambda: rule.outs([1, 2], 0),
                    lambda: rule.outs([0, 1], 1), lambda: rule.exchanges([0])):
            with self.assertRaises((NoThing, NoChoice)):
                ask()
        self.assertEqual((rule.count, rule.full, rule.size), (3, [[0, 1], [0, 2]], 2))
        self.assertEqual(rule.exchanges([0, 1]), [(2, [1])])


class WhatIsHandedIn(unittest.TestCase):
    def test_the_table_stays_as_it_was(self):
        table = [[2, 1], [1, 0], [2, 0], [0, 2]]
        before = copy.deepcopy(table)
        rows = list(table)
        Rule(3, table)
        self.assertEqual(table, before)
        for row, kept in zip(table, rows):
            self.assertIs(row, kept)

    def test_changing_the_table_afterwards_changes_nothing(self):
        table = [[0, 1], [0, 2]]
        rule = Rule(3, table)
        table[0][0] = 2
        table[1].append(1)
        table.append([7])
        self.assertEqual((rule.count, rule.full, rule.size), (3, [[0, 1], [0, 2]], 2))
        self.assertTrue(rule.together([0, 2]))
        self.assertFalse(rule.together([1, 2]))
        self.assertEqual(rule.outs([0, 1], 2), [1])

    def test_changing_the_lists_of_one_rule_changes_no_other_one(self):
        table = [[0, 1], [0, 2]]
        one = Rule(3, table)
        other = Rule(3, table)
        third = Rule(3, one.full)
        one.full[0].append(9)
        one.full.clear()
        for rule in (other, third):
            self.assertEqual(rule.full, [[0, 1], [0, 2]])
            self.assertEqual(rule.exchanges([0, 1]), [(2, [1])])
        self.assertEqual(table, [[0, 1], [0, 2]])


class TogetherAndRank(unittest.TestCase):
    def test_two_pairs_of_which_one_each(self):
        rule = Rule(5, [[0, 2], [0, 3], [1, 2], [1, 3]])
        self.assertTrue(rule.together([0, 3]))
        self.assertTrue(rule.together([3, 0]))
        self.assertFalse(rule.together([0, 1]))
        self.assertFalse(rule.together([0, 1, 2]))
        self.assertFalse(rule.together([4]))
        self.assertEqual(rule.rank([0, 1]), 1)
        self.assertEqual(rule.rank([3, 1, 0]), 2)
        self.assertEqual(rule.rank([4]), 0)
        self.assertEqual(rule.rank([4, 0]), 1)

    def test_no_things_and_all_things(self):
        for count, table in small_tables(4):
            rule = Rule(count, table)
            self.assertIs(rule.together([]), True)
            self.assertEqual(rule.rank([]), 0)
            self.assertEqual(rule.rank(list(range(count))), rule.size)
            self.assertIs(rule.together(list(range(count))), rule.size == count)

    def test_every_row_of_things_in_any_order_over_every_small_rule(self):
        for count, table in small_tables(4):
            rule = Rule(count, table)
            for row in rows_of(count):
                most = max(len(set(row) & set(choice)) for choice in table)
                has_all = any(set(row) <= set(choice) for choice in table)
                for things in itertools.permutations(row):
                    self.assertEqual(rule.rank(list(things)), most, (table, things))
                    self.assertIs(rule.together(list(things)), has_all, (table, things))

    def test_the_rank_is_the_most_of_the_things_that_are_together(self):
        for count, table in small_tables(4):
            rule = Rule(count, table)
            for row in rows_of(count):
                parts = [part for size in range(len(row) + 1) for part in itertools.combinations(row, size)]
                most = max(len(part) for part in parts if rule.together(list(part)))
                self.assertEqual(rule.rank(row), most)

    def test_the_kinds_of_the_answers(self):
        rule = Rule(2, [[0], [1]])
        self.assertIs(type(rule.together([0])), bool)
        self.assertIs(type(rule.together([0, 1])), bool)
        self.assertIs(type(rule.rank([0])), int)

    def test_what_is_no_thing_or_stands_twice(self):
        rule = Rule(3, [[0, 1], [0, 2]])
        wrong = [[-1], [3], [99], [FAR], [-FAR], [0, 3], [3, 0], [0, 0], [1, 2, 1], [0, 1, 2, 0], [3, 3], [-1, 1]]
        for things in wrong:
            for ask in (rule.together, rule.rank):
                with self.assertRaises(NoThing):
                    ask(things)

    def test_of_no_things_each_is_refused(self):
        rule = Rule(0, [[]])
        self.assertTrue(rule.together([]))
        self.assertEqual(rule.rank([]), 0)
        for ask in (rule.together, rule.rank):
            with self.assertRaises(NoThing):
                ask([0])

    def test_what_is_handed_in_stays(self):
        rule = Rule(4, [[0, 1], [0, 2], [1, 2]])
        things = [2, 3, 0]
        rule.together(things)
        rule.rank(things)
        self.assertEqual(things, [2, 3, 0])
        for wrong in ([2, 0, 9], [2, 0, 2]):
            before = list(wrong)
            for ask in (rule.together, rule.rank):
                with self.assertRaises(NoThing):
                    ask(wrong)
            self.assertEqual(wrong, before)


class OutsAndExchanges(unittest.TestCase):
    def test_any_two_of_four(self):
        rule = Rule(4, sized(4, 2))
        self.assertEqual(rule.outs([1, 3], 0), [1, 3])
        self.assertEqual(rule.outs([1, 3], 2), [1, 3])
        self.assertEqual(rule.exchanges([1, 3]), [(0, [1, 3]), (2, [1, 3])])

    def test_of_each_pair_its_own_goes(self):
        rule = Rule(5, [[0, 2], [0, 3], [1, 2], [1, 3]])
        self.assertEqual(rule.outs([0, 3], 1), [0])
        self.assertEqual(rule.outs([0, 3], 2), [3])
        self.assertEqual(rule.exchanges([0, 3]), [(1, [0]), (2, [3]), (4, [])])

    def test_none_can_go_for_a_thing_that_no_full_choice_has(self):
        rule = Rule(3, [[0]])
        self.assertEqual(rule.outs([0], 1), [])
        self.assertEqual(rule.exchanges([0]), [(1, []), (2, [])])
        self.assertEqual(Rule(2, [[]]).exchanges([]), [(0, []), (1, [])])
        self.assertEqual(Rule(2, [[]]).outs([], 1), [])

    def test_a_choice_that_lacks_nothing(self):
        self.assertEqual(Rule(3, [[0, 1, 2]]).exchanges([0, 1, 2]), [])
        self.assertEqual(Rule(0, [[]]).exchanges([]), [])

    def test_every_full_choice_in_any_order_over_every_small_rule(self):
        for count, table in small_tables(4):
            rule = Rule(count, table)
            for choice in table:
                lacked = [thing for thing in range(count) if thing not in choice]
                told = [(thing, outs_told(table, choice, thing)) for thing in lacked]
                for turned in itertools.permutations(choice):
                    self.assertEqual(rule.exchanges(list(turned)), told, (table, turned))
                    for thing, outs in told:
                        self.assertEqual(rule.outs(list(turned), thing), outs, (table, turned))

    def test_the_kinds_of_the_answers(self):
        rule = Rule(3, sized(3, 2))
        self.assertIs(type(rule.outs([0, 1], 2)), list)
        answer = rule.exchanges([0, 1])
        self.assertIs(type(answer), list)
        self.assertEqual([type(pair) for pair in answer], [tuple])
        self.assertEqual([type(part) for part in answer[0]], [int, list])

    def test_a_row_that_is_not_right(self):
        rule = Rule(4, [[0, 1], [0, 2]])
        for choice in ([0, 4], [-1, 0], [4], [FAR], [0, 0], [0, 1, 1], [0, 1, 4], [2, 2]):
            with self.assertRaises(NoThing):
                rule.outs(choice, 3)
            with self.assertRaises(NoThing):
                rule.exchanges(choice)

    def test_a_choice_that_is_not_full(self):
        rule = Rule(4, [[0, 1], [0, 2]])
        for choice in ([], [0], [1, 2], [2, 1], [0, 3], [0, 1, 2], [0, 1, 2, 3]):
            with self.assertRaises(NoChoice):
                rule.outs(choice, 3)
            with self.assertRaises(NoChoice):
                rule.exchanges(choice)

    def test_a_thing_that_is_none_or_that_the_choice_has(self):
        rule = Rule(4, [[0, 1], [0, 2]])
        for thing in (-1, -4, 4, 5, FAR, -FAR, 0, 1):
            with self.assertRaises(NoThing):
                rule.outs([0, 1], thing)
            with self.assertRaises(NoThing):
                rule.outs([1, 0], thing)

    def test_the_row_is_refused_first_then_the_choice_then_the_thing(self):
        rule = Rule(4, [[0, 1], [0, 2]])
        for thing in (-1, 4, 1):
            with self.assertRaises(NoThing):
                rule.outs([1, 1, 2], thing)
            with self.assertRaises(NoChoice):
                rule.outs([1, 2], thing)
        with self.assertRaises(NoThing):
            rule.outs([1, 2, 4], 0)

    def test_what_is_handed_in_stays(self):
        rule = Rule(3, sized(3, 2))
        choice = [2, 0]
        rule.outs(choice, 1)
        rule.exchanges(choice)
        self.assertEqual(choice, [2, 0])
        wrong = [2, 1, 0]
        with self.assertRaises(NoChoice):
            rule.exchanges(wrong)
        self.assertEqual(wrong, [2, 1, 0])

    def test_changing_an_answer_changes_no_later_answer(self):
        rule = Rule(4, sized(4, 2))
        first = rule.outs([0, 1], 2)
        first.append(9)
        first[0] = 8
        self.assertEqual(rule.outs([0, 1], 2), [0, 1])
        pairs = rule.exchanges([0, 1])
        pairs[0][1].clear()
        pairs.append((7, [7]))
        self.assertEqual(rule.exchanges([0, 1]), [(2, [0, 1]), (3, [0, 1])])
        self.assertEqual(rule.full, sized(4, 2))

    def test_what_is_asked_later_changes_no_earlier_answer(self):
        rule = Rule(4, sized(4, 2))
        outs = rule.outs([0, 1], 2)
        pairs = rule.exchanges([0, 1])
        rule.outs([2, 3], 0)
        rule.exchanges([2, 3])
        self.assertEqual(outs, [0, 1])
        self.assertEqual(pairs, [(2, [0, 1]), (3, [0, 1])])
        self.assertIsNot(pairs[0][1], pairs[1][1])


if __name__ == "__main__":
    unittest.main()
