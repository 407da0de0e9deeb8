import copy
import inspect
import itertools
import unittest

from matroidpick import tables
from matroidpick.tables import fault


def sized(count, size):
    return [list(choice) for choice in itertools.combinations(range(count), size)]


def choices_of(count):
    return [choice for size in range(count + 1) for choice in sized(count, size)]


def can_go(table, one, out, thing):
    left = set(one) - {out} | {thing}
    return any(set(choice) == left for choice in table)


def missing(table):
    """Every missing exchange, told by the places and the thing, straight from [3] and [4]."""
    found = []
    for at, one in enumerate(table):
        for behind, other in enumerate(table):
            for thing in set(other) - set(one):
                if not any(can_go(table, one, out, thing) for out in set(one) - set(other)):
                    found.append((at, thing, behind))
    return found


def expected(table):
    found = missing(table)
    if not found:
        return None
    at, thing, behind = min(found)
    return table[at], table[behind], thing


class Interface(unittest.TestCase):
    def test_names_arguments_and_place(self):
        self.assertEqual(list(inspect.signature(fault).parameters), ["count", "table"])
        self.assertEqual(tables.fault.__module__, "matroidpick.tables")


class NothingMissing(unittest.TestCase):
    def test_the_empty_table(self):
        for count in (0, 1, 5, 99):
            self.assertIsNone(fault(count, []))

    def test_a_single_choice(self):
        self.assertIsNone(fault(0, [[]]))
        self.assertIsNone(fault(3, [[]]))
        self.assertIsNone(fault(3, [[1]]))
        self.assertIsNone(fault(3, [[0, 1, 2]]))

    def test_any_so_many(self):
        for count in range(7):
            for size in range(count + 1):
                with self.subTest(count=count, size=size):
                    table = sized(count, size)
                    self.assertIsNone(fault(count, table))
                    self.assertIsNone(fault(count, table[::-1]))

    def test_one_of_each_of_two_bins(self):
        self.assertIsNone(fault(4, [[0, 2], [0, 3], [1, 2], [1, 3]]))

    def test_things_that_no_choice_or_each_choice_has(self):
        self.assertIsNone(fault(9, [[3, 8], [5, 8]]))

    def test_a_choice_that_stands_twice(self):
        self.assertIsNone(fault(2, [[0], [1], [0]]))
        self.assertIsNone(fault(2, [[0, 1], [0, 1]]))
        self.assertIsNone(fault(0, [[], []]))

    def test_as_many_choices_and_things_as_are_told(self):
        self.assertIsNone(fault(11, sized(11, 2)))
        self.assertIsNone(fault(11, sized(11, 9)))
        ahead = list(range(88))
        self.assertIsNone(fault(99, [ahead + [88 + thing for thing in row] for row in sized(11, 9)]))
        self.assertIsNone(fault(99, [[thing] for thing in range(44, 99)]))

    def test_a_count_of_any_size(self):
        most = 10 ** 12
        self.assertIsNone(fault(most, [[0], [most - 1]]))


class OneMissing(unittest.TestCase):
    def test_two_choices_apart(self):
        self.assertEqual(fault(4, [[0, 1], [2, 3]]), ([0, 1], [2, 3], 2))
        self.assertEqual(fault(4, [[2, 3], [0, 1]]), ([2, 3], [0, 1], 0))

    def test_the_thing_that_goes_must_be_lacked_by_the_other(self):
        # 0 could go for 2, which gives [1, 2], but the other has 0.
        table = [[0, 1], [1, 2], [0, 2, 3]]
        self.assertEqual(fault(4, table), ([0, 1], [0, 2, 3], 2))

    def test_a_full_choice_must_come_of_it(self):
        # Each has a thing that the other lacks, yet [0, 2] and [1, 2] are not there.
        self.assertEqual(fault(3, [[0, 1], [2]]), ([0, 1], [2], 2))

    def test_choices_of_unlike_sizes(self):
        self.assertEqual(fault(1, [[], [0]]), ([], [0], 0))
        self.assertEqual(fault(1, [[0], []]), ([], [0], 0))
        self.assertEqual(fault(2, [[0], [0, 1]]), ([0], [0, 1], 1))
        self.assertEqual(fault(2, [[0, 1], [0]]), ([0], [0, 1], 1))
        self.assertEqual(fault(3, [[0], [1], [0, 1, 2]]), ([0], [0, 1, 2], 1))

    def test_the_last_thing_below_the_count(self):
        self.assertEqual(fault(99, [[0, 98], [0]]), ([0], [0, 98], 98))
        most = 10 ** 12
        self.assertEqual(fault(most, [[0], [0, most - 1]]), ([0], [0, most - 1], most - 1))


class TheFirstOfSeveral(unittest.TestCase):
    def test_the_place_of_one_comes_first(self):
        # Of [0, 1] only thing 3 is missing, of [2, 3] the lesser thing 1.
        self.assertEqual(fault(4, [[0, 1], [0, 2], [2, 3]]), ([0, 1], [2, 3], 3))
        self.assertEqual(fault(4, [[2, 3], [0, 2], [0, 1]]), ([2, 3], [0, 1], 1))

    def test_then_the_thing_though_its_other_stands_later(self):
        self.assertEqual(fault(6, [[0, 1], [4, 5], [2, 3]]), ([0, 1], [2, 3], 2))

    def test_things_far_apart_are_gone_through_by_size(self):
        self.assertEqual(fault(99, [[5], [5, 64], [5, 33]]), ([5], [5, 33], 33))
        self.assertEqual(fault(99, [[5], [5, 98, 97], [5, 16], [5, 10]]), ([5], [5, 10], 10))

    def test_then_the_place_of_other(self):
        self.assertEqual(fault(5, [[0, 1], [2, 4], [2, 3]]), ([0, 1], [2, 4], 2))
        self.assertEqual(fault(5, [[0, 1], [2, 3], [2, 4]]), ([0, 1], [2, 3], 2))

    def test_an_other_ahead_of_one(self):
        # [0, 1, 2] lacks nothing; from [0] to [1] the exchange is there, to [0, 1, 2] it is not.
        self.assertEqual(fault(3, [[0, 1, 2], [0], [1]]), ([0], [0, 1, 2], 1))
        self.assertEqual(fault(3, [[0, 1], [2], [1]]), ([0, 1], [2], 2))

    def test_a_choice_that_stands_twice_counts_once(self):
        self.assertEqual(fault(4, [[0, 1], [0, 1], [2, 3]]), ([0, 1], [2, 3], 2))
        self.assertEqual(fault(4, [[0, 1], [2, 3], [0, 1], [2, 3]]), ([0, 1], [2, 3], 2))
        self.assertEqual(fault(2, [[1], [0], [1], [0, 1]]), ([1], [0, 1], 0))

    def test_each_set_of_choices_of_three_things_both_ways_round(self):
        choices = choices_of(3)
        for many in range(len(choices) + 1):
            for picks in itertools.combinations(choices, many):
                for table in (list(picks), list(picks)[::-1]):
                    self.assertEqual(fault(3, table), expected(table), table)

    def test_each_row_of_up_to_four_choices_of_three_things(self):
        choices = choices_of(3)
        for many in range(5):
            for picks in itertools.product(choices, repeat=many):
                table = [list(choice) for choice in picks]
                self.assertEqual(fault(3, table), expected(table), table)

    def test_each_set_of_pairs_of_four_things_in_two_orders(self):
        pairs = sized(4, 2)
        for many in range(len(pairs) + 1):
            for picks in itertools.permutations(pairs, min(many, 4)):
                table = list(picks) + [pair for pair in pairs if pair not in picks][:many - len(picks)]
                self.assertEqual(fault(4, table), expected(table), table)


class WhatIsHandedInAndOut(unittest.TestCase):
    def test_the_answer_is_a_tuple_of_two_lists_and_a_thing(self):
        answer = fault(4, [[0, 1], [2, 3]])
        self.assertIs(type(answer), tuple)
        self.assertEqual([type(part) for part in answer], [list, list, int])

    def test_the_table_stays_as_it_was(self):
        for table in ([[0, 1], [2, 3], [0, 1]], [[1], [0]], [[0, 2], [0], [1, 2]], []):
            before = copy.deepcopy(table)
            rows = list(table)
            fault(4, table)
            self.assertEqual(table, before)
            for row, kept in zip(table, rows):
                self.assertIs(row, kept)

    def test_a_changed_answer_changes_neither_the_table_nor_a_later_answer(self):
        table = [[0, 1], [2, 3], [0, 1]]
        one, other, thing = fault(4, table)
        for row in table:
            self.assertIsNot(one, row)
            self.assertIsNot(other, row)
        one.append(77)
        other.clear()
        self.assertEqual(table, [[0, 1], [2, 3], [0, 1]])
        self.assertEqual(fault(4, table), ([0, 1], [2, 3], 2))

    def test_asked_again_the_answer_is_the_same(self):
        table = [[0, 1], [0, 2], [2, 3]]
        first = fault(4, table)
        self.assertEqual(fault(4, table), first)
        self.assertIsNot(fault(4, table)[0], first[0])
        self.assertIsNot(fault(4, table)[1], first[1])

    def test_nothing_handed_in_is_kept(self):
        table = [[0, 1], [2, 3]]
        answer = fault(4, table)
        table[0].append(9)
        table[1][0] = 8
        self.assertEqual(answer, ([0, 1], [2, 3], 2))
        table.clear()
        self.assertIsNone(fault(4, table))
        table.extend([[1], [0]])
        self.assertIsNone(fault(4, table))


if __name__ == "__main__":
    unittest.main()
