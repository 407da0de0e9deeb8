import inspect
import itertools
import unittest

from matroidpick import making
from matroidpick.errors import NoChoice, NoThing
from matroidpick.making import any_of, bins, joined, taken, turned, without
from matroidpick.picking import picked
from matroidpick.rules import Rule
from small_rules import rows_of, sized, small_tables

FAR = 10 ** 5000


def told(rule):
    return rule.count, rule.full, rule.size


def spoil(rule):
    """Change all the lists of a rule."""
    for choice in rule.full:
        choice.append(77)
    rule.full.append([78])


class Interface(unittest.TestCase):
    def test_names_arguments_and_place(self):
        names = {
            "any_of": ["count", "size"],
            "joined": ["one", "other"],
            "bins": ["rows"],
            "turned": ["rule"],
            "without": ["rule", "thing"],
            "taken": ["rule", "thing"],
        }
        for name, parameters in names.items():
            with self.subTest(name):
                made = getattr(making, name)
                self.assertEqual(made.__module__, "matroidpick.making")
                self.assertEqual(list(inspect.signature(made).parameters), parameters)

    def test_each_makes_a_rule(self):
        rule = Rule(2, [[0], [1]])
        made = [any_of(2, 1), joined(rule, rule), bins([(2, 1)]), turned(rule), without(rule, 0), taken(rule, 0)]
        self.assertEqual([type(one) for one in made], [Rule] * 6)


class AnyOf(unittest.TestCase):
    def test_two_of_three(self):
        self.assertEqual(told(any_of(3, 2)), (3, [[0, 1], [0, 2], [1, 2]], 2))

    def test_every_size_of_few_things(self):
        for count in range(7):
            for size in range(count + 1):
                self.assertEqual(told(any_of(count, size)), (count, sized(count, size), size))

    def test_a_size_of_nought_and_of_all(self):
        self.assertEqual(told(any_of(0, 0)), (0, [[]], 0))
        self.assertEqual(told(any_of(5, 0)), (5, [[]], 0))
        self.assertEqual(told(any_of(99, 0)), (99, [[]], 0))
        self.assertEqual(told(any_of(99, 99)), (99, [list(range(99))], 99))

    def test_as_many_choices_as_are_told(self):
        self.assertEqual(told(any_of(55, 1)), (55, [[thing] for thing in range(55)], 1))
        self.assertEqual(told(any_of(11, 9)), (11, sized(11, 9), 9))

    def test_a_size_below_nought_or_beyond_the_count(self):
        for count, size in ((0, 1), (0, -1), (3, -1), (3, 4), (3, 99), (3, -99), (3, FAR), (3, -FAR), (99, 100)):
            with self.assertRaises(NoChoice):
                any_of(count, size)


class Joined(unittest.TestCase):
    def test_one_of_two_beside_one_of_two(self):
        pair = any_of(2, 1)
        self.assertEqual(told(joined(pair, pair)), (4, [[0, 2], [0, 3], [1, 2], [1, 3]], 2))

    def test_either_rule_first(self):
        one = Rule(3, [[0], [2]])
        other = Rule(2, [[0, 1]])
        self.assertEqual(told(joined(one, other)), (5, [[0, 3, 4], [2, 3, 4]], 3))
        self.assertEqual(told(joined(other, one)), (5, [[0, 1, 2], [0, 1, 4]], 3))

    def test_with_the_rule_of_no_things(self):
        nothing = Rule(0, [[]])
        for count, table in small_tables(3):
            rule = Rule(count, table)
            self.assertEqual(told(joined(nothing, rule)), told(rule))
            self.assertEqual(told(joined(rule, nothing)), told(rule))
        self.assertEqual(told(joined(nothing, nothing)), (0, [[]], 0))

    def test_with_an_empty_full_choice(self):
        self.assertEqual(told(joined(any_of(3, 0), any_of(2, 1))), (5, [[3], [4]], 1))
        self.assertEqual(told(joined(any_of(2, 1), any_of(3, 0))), (5, [[0], [1]], 1))

    def test_every_two_small_rules(self):
        tables = small_tables(3)
        for (count, table), (behind, others) in itertools.product(tables, tables):
            full = sorted(one + [count + thing for thing in other] for one in table for other in others)
            made = joined(Rule(count, table), Rule(behind, others))
            self.assertEqual(told(made), (count + behind, full, len(full[0])))

    def test_the_rules_stay_as_they_were(self):
        one, other = any_of(3, 1), any_of(2, 1)
        spoil(joined(one, other))
        spoil(joined(one, one))
        self.assertEqual(told(one), (3, [[0], [1], [2]], 1))
        self.assertEqual(told(other), (2, [[0], [1]], 1))
        self.assertEqual(joined(one, other).size, 2)


class Bins(unittest.TestCase):
    def test_bin_by_bin(self):
        self.assertEqual(told(bins([(2, 1), (2, 1)])), (4, [[0, 2], [0, 3], [1, 2], [1, 3]], 2))
        self.assertEqual(told(bins([(1, 1), (3, 2)])), (4, [[0, 1, 2], [0, 1, 3], [0, 2, 3]], 3))
        self.assertEqual(told(bins([(3, 2), (1, 1)])), (4, [[0, 1, 3], [0, 2, 3], [1, 2, 3]], 3))

    def test_a_single_bin(self):
        self.assertEqual(told(bins([(4, 2)])), told(any_of(4, 2)))

    def test_no_bins(self):
        self.assertEqual(told(bins([])), (0, [[]], 0))

    def test_bins_of_no_things(self):
        self.assertEqual(told(bins([(0, 0)])), (0, [[]], 0))
        self.assertEqual(told(bins([(0, 5)])), (0, [[]], 0))
        self.assertEqual(told(bins([(0, 3), (2, 1), (0, 0), (1, 1)])), (3, [[0, 2], [1, 2]], 2))

    def test_a_most_of_nought(self):
        self.assertEqual(told(bins([(3, 0)])), (3, [[]], 0))
        self.assertEqual(told(bins([(3, 0), (2, 1)])), (5, [[3], [4]], 1))

    def test_a_most_beyond_gives_all(self):
        self.assertEqual(told(bins([(2, 9), (2, 1)])), (4, [[0, 1, 2], [0, 1, 3]], 3))
        self.assertEqual(told(bins([(2, 2), (1, FAR)])), (3, [[0, 1, 2]], 3))

    def test_as_many_things_as_are_told(self):
        self.assertEqual(told(bins([(1, 1)] * 99)), (99, [list(range(99))], 99))
        self.assertEqual(told(bins([(9, 0)] * 11)), (99, [[]], 0))

    def test_a_most_below_nought(self):
        for rows in ([(3, -1)], [(0, -1)], [(2, 1), (2, -1)], [(2, -1), (2, 1)], [(0, 0), (0, -FAR)]):
            with self.assertRaises(NoChoice):
                bins(rows)

    def test_rows_of_few_bins_against_going_through_all(self):
        pairs = list(itertools.product(range(3), range(4)))
        for many in range(4):
            for rows in itertools.product(pairs, repeat=many):
                self.assertEqual(told(bins(list(rows))), self.told_of(rows), rows)

    def told_of(self, rows):
        count = sum(many for many, _ in rows)
        owner = [at for at, (many, _) in enumerate(rows) for _ in range(many)]
        just = [min(row) for row in rows]
        full = [
            row for row in rows_of(count)
            if [sum(owner[thing] == at for thing in row) for at in range(len(rows))] == just
        ]
        return count, sorted(full), sum(just)

    def test_the_rows_stay_as_they_were(self):
        rows = [(2, 1), (1, 5)]
        made = bins(rows)
        self.assertEqual(rows, [(2, 1), (1, 5)])
        rows.append((1, 1))
        self.assertEqual(told(made), (3, [[0, 2], [1, 2]], 2))
        spoil(made)
        self.assertEqual(rows, [(2, 1), (1, 5), (1, 1)])
        self.assertEqual(told(bins([])), (0, [[]], 0))
        spoil(bins([]))
        self.assertEqual(told(bins([])), (0, [[]], 0))


class Turned(unittest.TestCase):
    def test_what_is_left(self):
        self.assertEqual(told(turned(Rule(4, [[0], [2]]))), (4, [[0, 1, 3], [1, 2, 3]], 3))
        self.assertEqual(told(turned(any_of(4, 1))), told(any_of(4, 3)))

    def test_nothing_and_all_are_left(self):
        self.assertEqual(told(turned(any_of(3, 3))), (3, [[]], 0))
        self.assertEqual(told(turned(any_of(3, 0))), (3, [[0, 1, 2]], 3))
        self.assertEqual(told(turned(Rule(0, [[]]))), (0, [[]], 0))

    def test_every_small_rule_once_and_twice(self):
        for count, table in small_tables(4):
            rule = Rule(count, table)
            once = turned(rule)
            full = sorted(sorted(set(range(count)) - set(choice)) for choice in table)
            self.assertEqual(told(once), (count, full, count - rule.size))
            twice = turned(once)
            self.assertIsNot(twice, rule)
            self.assertEqual(told(twice), told(rule))

    def test_what_is_picked_by_weights_of_the_other_sign_leaves_one_as_heavy(self):
        for count, table in small_tables(4):
            rule = Rule(count, table)
            for weights in itertools.product((-3, 0, 2), repeat=count):
                gone = picked(turned(rule), [-weight for weight in weights])
                left = [thing for thing in range(count) if thing not in gone]
                self.assertIn(left, table)
                heaviest = picked(rule, list(weights))
                self.assertEqual(sum(weights[thing] for thing in left), sum(weights[thing] for thing in heaviest))

    def test_the_rule_stays_as_it_was(self):
        rule = any_of(3, 1)
        once = turned(rule)
        twice = turned(once)
        spoil(twice)
        self.assertEqual(told(once), (3, [[0, 1], [0, 2], [1, 2]], 2))
        spoil(once)
        self.assertEqual(told(rule), (3, [[0], [1], [2]], 1))
        self.assertEqual(told(turned(rule)), (3, [[0, 1], [0, 2], [1, 2]], 2))


class WithoutAndTaken(unittest.TestCase):
    def test_any_two_of_four(self):
        rule = any_of(4, 2)
        for thing in range(4):
            self.assertEqual(told(without(rule, thing)), told(any_of(3, 2)))
            self.assertEqual(told(taken(rule, thing)), told(any_of(3, 1)))

    def test_the_things_behind_it_become_one_less(self):
        rule = Rule(5, [[0, 2], [0, 4], [1, 2], [1, 4]])
        self.assertEqual(told(without(rule, 2)), (4, [[0, 3], [1, 3]], 2))
        self.assertEqual(told(taken(rule, 2)), (4, [[0], [1]], 1))
        self.assertEqual(told(without(rule, 0)), (4, [[0, 1], [0, 3]], 2))
        self.assertEqual(told(taken(rule, 0)), (4, [[1], [3]], 1))
        self.assertEqual(told(without(rule, 4)), (4, [[0, 2], [1, 2]], 2))
        self.assertEqual(told(taken(rule, 4)), (4, [[0], [1]], 1))

    def test_a_thing_that_no_full_choice_has(self):
        rule = Rule(4, [[0, 3], [1, 3]])
        self.assertEqual(told(without(rule, 2)), (3, [[0, 2], [1, 2]], 2))
        self.assertEqual(told(taken(rule, 2)), (3, [[0, 2], [1, 2]], 2))

    def test_a_thing_that_all_full_choices_have(self):
        rule = Rule(4, [[0, 1], [1, 3]])
        self.assertEqual(told(without(rule, 1)), (3, [[0], [2]], 1))
        self.assertEqual(told(taken(rule, 1)), (3, [[0], [2]], 1))

    def test_the_last_thing_of_all(self):
        for make in (without, taken):
            self.assertEqual(told(make(any_of(1, 1), 0)), (0, [[]], 0))
            self.assertEqual(told(make(any_of(1, 0), 0)), (0, [[]], 0))

    def test_every_thing_of_every_small_rule(self):
        for count, table in small_tables(4):
            rule = Rule(count, table)
            for gone in range(count):
                lack = [choice for choice in table if gone not in choice] or table
                have = [choice for choice in table if gone in choice] or table
                self.assertEqual(told(without(rule, gone)), self.closed(count, lack, gone))
                self.assertEqual(told(taken(rule, gone)), self.closed(count, have, gone))

    def closed(self, count, choices, gone):
        places = {thing: at for at, thing in enumerate([thing for thing in range(count) if thing != gone])}
        full = sorted([places[thing] for thing in choice if thing != gone] for choice in choices)
        return count - 1, full, len(full[0])

    def test_turned_the_one_is_the_other(self):
        for count, table in small_tables(4):
            rule = Rule(count, table)
            for thing in range(count):
                self.assertEqual(told(turned(without(rule, thing))), told(taken(turned(rule), thing)))

    def test_what_is_no_thing_of_the_rule(self):
        for make in (without, taken):
            for thing in (-1, -3, 3, 4, 99, FAR, -FAR):
                with self.assertRaises(NoThing):
                    make(any_of(3, 2), thing)
            with self.assertRaises(NoThing):
                make(Rule(0, [[]]), 0)

    def test_the_rule_stays_as_it_was(self):
        for make in (without, taken):
            for thing in range(4):
                rule = Rule(4, [[0, 1], [0, 3]])
                first = make(rule, thing)
                again = told(make(rule, thing))
                spoil(first)
                self.assertEqual(told(rule), (4, [[0, 1], [0, 3]], 2))
                self.assertEqual(told(make(rule, thing)), again)
                self.assertEqual(rule.exchanges([0, 1]), [(2, []), (3, [1])])


class MadeRulesAnswer(unittest.TestCase):
    def test_a_made_rule_is_asked_as_any_other(self):
        rule = joined(any_of(3, 1), turned(any_of(3, 1)))
        self.assertEqual(rule.rank([0, 1, 3, 4, 5]), 3)
        self.assertTrue(rule.together([5, 1, 3]))
        self.assertFalse(rule.together([0, 1]))
        self.assertEqual(rule.exchanges([0, 3, 4]), [(1, [0]), (2, [0]), (5, [3, 4])])
        self.assertEqual(picked(rule, [1, 2, 3, 4, 5, 6]), [2, 4, 5])

    def test_the_lists_of_a_rule_changed_afterwards_change_no_made_one(self):
        rule = any_of(3, 1)
        made = [joined(rule, rule), turned(rule), without(rule, 0), taken(rule, 0)]
        before = [(one.count, [list(choice) for choice in one.full], one.size) for one in made]
        spoil(rule)
        self.assertEqual([told(one) for one in made], before)


if __name__ == "__main__":
    unittest.main()
