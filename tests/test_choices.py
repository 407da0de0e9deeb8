import inspect
import itertools
import unittest

from matroidpick import choices
from matroidpick.choices import exchanged, weigh

BIG = 10 ** 12


class Interface(unittest.TestCase):
    def test_names_arguments_and_place(self):
        self.assertEqual(list(inspect.signature(exchanged).parameters), ["choice", "out", "thing"])
        self.assertEqual(list(inspect.signature(weigh).parameters), ["weights", "choice"])
        for name in ("exchanged", "weigh"):
            self.assertEqual(getattr(choices, name).__module__, "matroidpick.choices")


class Exchanged(unittest.TestCase):
    def test_the_thing_comes_in_between(self):
        self.assertEqual(exchanged([0, 2, 5], 2, 3), [0, 3, 5])
        self.assertEqual(exchanged([0, 2, 5], 0, 4), [2, 4, 5])
        self.assertEqual(exchanged([0, 2, 5], 5, 1), [0, 1, 2])

    def test_the_thing_comes_ahead_of_all(self):
        self.assertEqual(exchanged([1, 2, 5], 1, 0), [0, 2, 5])
        self.assertEqual(exchanged([1, 2, 5], 5, 0), [0, 1, 2])

    def test_the_thing_comes_behind_all(self):
        self.assertEqual(exchanged([1, 2, 5], 5, 6), [1, 2, 6])
        self.assertEqual(exchanged([1, 2, 5], 1, 6), [2, 5, 6])

    def test_a_choice_of_one_thing(self):
        self.assertEqual(exchanged([0], 0, 1), [1])
        self.assertEqual(exchanged([1], 1, 0), [0])
        self.assertEqual(exchanged([BIG], BIG, 0), [0])

    def test_things_of_any_size(self):
        self.assertEqual(exchanged([3, BIG], 3, BIG + 1), [BIG, BIG + 1])
        self.assertEqual(exchanged([3, BIG], BIG, BIG - 1), [3, BIG - 1])
        self.assertEqual(exchanged([9, 10, 100], 100, 2), [2, 9, 10])
        self.assertEqual(exchanged([5, 10 ** 80], 10 ** 80, 10 ** 79), [5, 10 ** 79])

    def test_a_choice_in_any_order_gives_a_rising_answer(self):
        for choice in itertools.permutations([1, 4, 6, 12]):
            with self.subTest(choice):
                self.assertEqual(exchanged(list(choice), 6, 5), [1, 4, 5, 12])
                self.assertEqual(exchanged(list(choice), 1, 20), [4, 6, 12, 20])

    def test_what_is_handed_in_stays_as_it_was(self):
        choice = [7, 1, 4]
        exchanged(choice, 1, 2)
        self.assertEqual(choice, [7, 1, 4])

    def test_the_answer_is_a_list_of_its_own(self):
        choice = [1, 4, 7]
        answer = exchanged(choice, 4, 5)
        self.assertIs(type(answer), list)
        self.assertIsNot(answer, choice)
        answer.append(99)
        answer[0] = 98
        self.assertEqual(choice, [1, 4, 7])
        self.assertEqual(exchanged(choice, 4, 5), [1, 5, 7])

    def test_nothing_handed_in_is_kept(self):
        choice = [1, 4, 7]
        answer = exchanged(choice, 4, 5)
        choice[0] = 2
        choice.append(9)
        self.assertEqual(answer, [1, 5, 7])
        self.assertEqual(exchanged(choice, 4, 5), [2, 5, 7, 9])

    def test_an_exchange_and_its_turn_lead_back(self):
        choice = [0, 3, 8, BIG]
        for out in choice:
            for thing in (1, 5, 9, 2 * BIG):
                there = exchanged(choice, out, thing)
                self.assertEqual(exchanged(there, thing, out), choice)


class Weigh(unittest.TestCase):
    def test_the_weights_of_the_things_are_summed(self):
        self.assertEqual(weigh([10, 4, 7], [0, 2]), 17)
        self.assertEqual(weigh([10, 4, 7], [1]), 4)
        self.assertEqual(weigh([10, 4, 7], [0, 1, 2]), 21)

    def test_the_empty_choice_weighs_nought(self):
        self.assertEqual(weigh([10, 4, 7], []), 0)
        self.assertEqual(weigh([], []), 0)

    def test_weights_below_nought(self):
        self.assertEqual(weigh([-10, 4, -7], [0, 2]), -17)
        self.assertEqual(weigh([-10, 4, 6], [0, 1, 2]), 0)
        self.assertEqual(weigh([0, -1], [0, 1]), -1)

    def test_weights_of_sixty_figures(self):
        most = 10 ** 60 - 1
        self.assertEqual(weigh([most, 1, most], [0, 1]), 10 ** 60)
        self.assertEqual(weigh([most, 1, -most], [0, 1, 2]), 1)
        self.assertEqual(weigh([most] * 100, list(range(100))), 100 * most)
        self.assertEqual(weigh([-most] * 100, list(range(100))), -100 * most)

    def test_a_choice_in_any_order(self):
        for choice in itertools.permutations([0, 2, 3]):
            self.assertEqual(weigh([1, 20, 300, 4000], list(choice)), 4301)

    def test_a_thing_of_a_large_number(self):
        weights = [0] * 100000
        weights[99999] = -6
        weights[12345] = 11
        self.assertEqual(weigh(weights, [12345, 99999]), 5)

    def test_the_answer_is_a_whole_number(self):
        self.assertIs(type(weigh([1, 2], [0])), int)
        self.assertIs(type(weigh([1, 2], [])), int)

    def test_what_is_handed_in_stays_and_is_not_kept(self):
        weights = [5, 6, 7]
        choice = [2, 0]
        self.assertEqual(weigh(weights, choice), 12)
        self.assertEqual((weights, choice), ([5, 6, 7], [2, 0]))
        weights[0] = 50
        self.assertEqual(weigh(weights, choice), 57)
        choice.append(1)
        self.assertEqual(weigh(weights, choice), 63)


if __name__ == "__main__":
    unittest.main()
