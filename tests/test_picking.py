import inspect
import itertools
import unittest

from matroidpick import picking
from matroidpick.errors import NoChoice, NoThing, NoWeights
from matroidpick.picking import order, picked, way
from matroidpick.rules import Rule
from small_rules import sized, small_tables

MOST = 10 ** 60 - 1
FAR = 10 ** 5000


def weighed(weights, choice):
    return sum(weights[thing] for thing in choice)


def weightings(count):
    """Weights of few kinds, so that equally heavy things are among them."""
    return [list(weights) for weights in itertools.product((-3, 0, 2), repeat=count)]


def ordered(weights):
    """The order straight from [8]: the heaviest of those left, of these the least."""
    left = list(range(len(weights)))
    row = []
    while left:
        heaviest = max(weights[thing] for thing in left)
        first = min(thing for thing in left if weights[thing] == heaviest)
        left.remove(first)
        row.append(first)
    return row


def kept_by(table, weights):
    """What is picked, straight from [9]."""
    kept = set()
    for thing in ordered(weights):
        if any(kept | {thing} <= set(choice) for choice in table):
            kept = kept | {thing}
    return sorted(kept)


def way_told(table, weights, choice):
    """The way straight from [10]."""
    full = [set(held) for held in table]
    goal = set(kept_by(table, weights))
    held = set(choice)
    steps = []
    while goal - held:
        thing = [one for one in ordered(weights) if one in goal - held][0]
        outs = [out for out in held if held - {out} | {thing} in full]
        out = min(set(outs) - goal)
        held = held - {out} | {thing}
        steps.append((out, thing))
    return steps


class Interface(unittest.TestCase):
    def test_names_arguments_and_place(self):
        told = {"order": ["weights"], "picked": ["rule", "weights"], "way": ["rule", "weights", "choice"]}
        for name, names in told.items():
            with self.subTest(name):
                made = getattr(picking, name)
                self.assertEqual(made.__module__, "matroidpick.picking")
                self.assertEqual(list(inspect.signature(made).parameters), names)


class Order(unittest.TestCase):
    def test_the_heavier_ahead(self):
        self.assertEqual(order([1, 3, 2]), [1, 2, 0])
        self.assertEqual(order([-1, -3, 0, -2]), [2, 0, 3, 1])

    def test_of_equally_heavy_ones_the_lesser(self):
        self.assertEqual(order([5, 5, 5]), [0, 1, 2])
        self.assertEqual(order([1, 7, 1, 7, 0]), [1, 3, 0, 2, 4])
        self.assertEqual(order([-1, -1]), [0, 1])

    def test_no_weights(self):
        self.assertEqual(order([]), [])

    def test_a_single_weight(self):
        for weight in (-4, 0, 4):
            self.assertEqual(order([weight]), [0])

    def test_weights_of_sixty_figures(self):
        self.assertEqual(order([MOST - 1, MOST, -MOST, 1 - MOST]), [1, 0, 3, 2])
        self.assertEqual(order([10 ** 59, 10 ** 59 + 1, 10 ** 59]), [1, 0, 2])

    def test_a_hundred_weights(self):
        self.assertEqual(order(list(range(100))), list(range(99, -1, -1)))
        self.assertEqual(order([0] * 100), list(range(100)))
        self.assertEqual(order([thing // 2 for thing in range(100)])[:4], [98, 99, 96, 97])

    def test_every_row_of_few_weights(self):
        for count in range(6):
            for weights in weightings(count):
                self.assertEqual(order(weights), ordered(weights))

    def test_what_is_handed_in_stays_and_the_answer_is_a_new_list(self):
        weights = [2, 0, 1]
        first = order(weights)
        self.assertIs(type(first), list)
        first.append(9)
        self.assertEqual(weights, [2, 0, 1])
        self.assertEqual(order(weights), [0, 2, 1])
        weights[1] = 5
        self.assertEqual(first, [0, 2, 1, 9])
        self.assertEqual(order(weights), [1, 0, 2])


class Picked(unittest.TestCase):
    def test_the_two_heaviest_of_four(self):
        rule = Rule(4, sized(4, 2))
        self.assertEqual(picked(rule, [3, 9, 1, 5]), [1, 3])
        self.assertEqual(picked(rule, [-3, -9, -1, -5]), [0, 2])

    def test_one_of_each_pair(self):
        rule = Rule(5, [[0, 2], [0, 3], [1, 2], [1, 3]])
        self.assertEqual(picked(rule, [9, 8, 1, 2, 100]), [0, 3])
        self.assertEqual(picked(rule, [8, 9, -1, -2, 100]), [1, 2])

    def test_of_equally_heavy_ones_the_lesser(self):
        self.assertEqual(picked(Rule(4, sized(4, 2)), [7, 7, 7, 7]), [0, 1])
        self.assertEqual(picked(Rule(4, sized(4, 2)), [7, 8, 7, 7]), [0, 1])
        self.assertEqual(picked(Rule(4, sized(4, 2)), [6, 8, 7, 7]), [1, 2])

    def test_weights_below_nought_are_picked_too(self):
        self.assertEqual(picked(Rule(2, [[0, 1]]), [-5, -6]), [0, 1])
        self.assertEqual(picked(Rule(2, [[0], [1]]), [-6, -5]), [1])

    def test_weights_of_sixty_figures(self):
        rule = Rule(3, sized(3, 1))
        self.assertEqual(picked(rule, [MOST - 1, MOST, MOST - 1]), [1])
        self.assertEqual(picked(rule, [-MOST, 1 - MOST, -MOST]), [1])

    def test_no_things_and_no_choice_of_any(self):
        self.assertEqual(picked(Rule(0, [[]]), []), [])
        self.assertEqual(picked(Rule(3, [[]]), [1, 2, 3]), [])

    def test_many_things(self):
        ahead = list(range(88))
        rule = Rule(99, [ahead + [88 + thing for thing in row] for row in sized(11, 9)])
        self.assertEqual(picked(rule, list(range(99))), ahead + list(range(90, 99)))
        self.assertEqual(picked(rule, list(range(0, -99, -1))), ahead + list(range(88, 97)))

    def test_every_small_rule_with_every_row_of_few_weights(self):
        for count, table in small_tables(4):
            rule = Rule(count, table)
            for weights in weightings(count):
                answer = picked(rule, weights)
                self.assertEqual(answer, kept_by(table, weights), (table, weights))
                self.assertIn(answer, table)
                self.assertEqual(weighed(weights, answer), max(weighed(weights, choice) for choice in table))

    def test_one_weight_too_many_or_too_few(self):
        rule = Rule(3, sized(3, 2))
        for weights in ([], [1], [1, 2], [1, 2, 3, 4], [0] * 99):
            with self.assertRaises(NoWeights):
                picked(rule, weights)
        with self.assertRaises(NoWeights):
            picked(Rule(0, [[]]), [0])
        with self.assertRaises(NoWeights):
            picked(Rule(1, [[]]), [])

    def test_what_is_handed_in_stays_and_the_answer_is_a_new_list(self):
        rule = Rule(3, sized(3, 2))
        weights = [1, 2, 3]
        first = picked(rule, weights)
        self.assertIs(type(first), list)
        for choice in rule.full:
            self.assertIsNot(first, choice)
        first.append(9)
        first[0] = 8
        self.assertEqual(picked(rule, weights), [1, 2])
        self.assertEqual(weights, [1, 2, 3])
        self.assertEqual((rule.count, rule.full, rule.size), (3, sized(3, 2), 2))


class Way(unittest.TestCase):
    def test_the_heaviest_comes_first_and_the_least_goes(self):
        rule = Rule(4, sized(4, 2))
        self.assertEqual(way(rule, [1, 2, 3, 4], [0, 1]), [(0, 3), (1, 2)])
        self.assertEqual(way(rule, [4, 3, 2, 1], [2, 3]), [(2, 0), (3, 1)])

    def test_what_is_of_the_picked_never_goes(self):
        rule = Rule(4, sized(4, 2))
        self.assertEqual(way(rule, [3, 0, 0, 4], [0, 1]), [(1, 3)])
        self.assertEqual(way(rule, [0, 3, 4, 0], [1, 3]), [(3, 2)])

    def test_only_what_can_go_goes(self):
        rule = Rule(4, [[0, 2], [0, 3], [1, 2], [1, 3]])
        self.assertEqual(way(rule, [0, 5, 0, 9], [0, 2]), [(2, 3), (0, 1)])

    def test_the_way_from_what_is_picked_is_empty(self):
        for count, table in small_tables(4):
            rule = Rule(count, table)
            for weights in weightings(count):
                self.assertEqual(way(rule, weights, picked(rule, weights)), [])

    def test_equally_heavy_things_are_exchanged_too(self):
        self.assertEqual(way(Rule(3, sized(3, 1)), [5, 5, 5], [2]), [(2, 0)])

    def test_weights_of_sixty_figures(self):
        rule = Rule(3, sized(3, 1))
        self.assertEqual(way(rule, [MOST - 1, MOST, -MOST], [0]), [(0, 1)])
        self.assertEqual(way(rule, [-MOST, 1 - MOST, -MOST], [2]), [(2, 1)])

    def test_the_rule_of_no_things(self):
        self.assertEqual(way(Rule(0, [[]]), [], []), [])

    def test_a_choice_in_any_order(self):
        rule = Rule(5, sized(5, 3))
        for choice in itertools.permutations([0, 1, 2]):
            self.assertEqual(way(rule, [0, 1, 2, 3, 4], list(choice)), [(0, 4), (1, 3)])

    def test_every_way_over_every_small_rule(self):
        for count, table in small_tables(4):
            rule = Rule(count, table)
            for weights in weightings(count):
                for choice in table:
                    steps = way(rule, weights, choice)
                    self.assertEqual(steps, way_told(table, weights, choice), (table, weights, choice))
                    self.follow(table, weights, choice, steps)

    def follow(self, table, weights, choice, steps):
        goal = kept_by(table, weights)
        self.assertEqual(len(steps), len(set(goal) - set(choice)))
        held = set(choice)
        for out, thing in steps:
            self.assertIn(out, held)
            self.assertNotIn(thing, held)
            self.assertGreaterEqual(weights[thing], weights[out])
            held = held - {out} | {thing}
            self.assertIn(sorted(held), table)
        self.assertEqual(sorted(held), goal)

    def test_the_kinds_of_the_answer(self):
        steps = way(Rule(4, sized(4, 2)), [1, 2, 3, 4], [0, 1])
        self.assertIs(type(steps), list)
        self.assertEqual([type(step) for step in steps], [tuple, tuple])

    def test_weights_are_refused_as_by_picked(self):
        rule = Rule(3, sized(3, 2))
        for weights in ([], [1, 2], [1, 2, 3, 4]):
            with self.assertRaises(NoWeights):
                way(rule, weights, [0, 1])

    def test_the_choice_is_refused_as_by_outs(self):
        rule = Rule(4, [[0, 1], [0, 2]])
        weights = [1, 2, 3, 4]
        for choice in ([0, 4], [-1, 0], [FAR, 0], [0, 0], [0, 1, 1], [1, 2, 4]):
            with self.assertRaises(NoThing):
                way(rule, weights, choice)
        for choice in ([], [0], [1, 2], [0, 3], [0, 1, 2]):
            with self.assertRaises(NoChoice):
                way(rule, weights, choice)

    def test_the_weights_are_refused_ahead_of_the_choice(self):
        rule = Rule(4, [[0, 1], [0, 2]])
        for choice in ([0, 4], [0, 0], [1, 2], []):
            for weights in ([1, 2, 3], [1, 2, 3, 4, 5]):
                with self.assertRaises(NoWeights):
                    way(rule, weights, choice)

    def test_what_is_handed_in_stays_and_the_answer_is_a_new_list(self):
        rule = Rule(4, sized(4, 2))
        weights = [1, 2, 3, 4]
        choice = [1, 0]
        first = way(rule, weights, choice)
        first.append((9, 9))
        self.assertEqual(way(rule, weights, choice), [(0, 3), (1, 2)])
        self.assertEqual((weights, choice), ([1, 2, 3, 4], [1, 0]))
        self.assertEqual((rule.count, rule.full, rule.size), (4, sized(4, 2), 2))

    def test_a_full_choice_of_the_rule_itself_stays(self):
        rule = Rule(4, sized(4, 2))
        way(rule, [1, 2, 3, 4], rule.full[0])
        self.assertEqual(rule.full, sized(4, 2))


if __name__ == "__main__":
    unittest.main()
