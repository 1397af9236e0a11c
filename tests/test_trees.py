"""Points 2 and 3, and points 1 and 10 as far as they speak of trees and bits."""

import copy
import itertools
import unittest

from knotbits import trees
from knotbits.errors import NoTree
from knotbits.trees import is_tree, plain, pressed
from tests.shapes import (
    NO_NUMBERS, bits_by_kids, comb, elders_and_self, every_tree, is_one_trees_bits,
    parents_by_heights, path, random_tree, some_trees, star,
)

BY_HAND = [
    ([None], "10"),
    ([None, 0], "1100"),
    ([None, 0, 0], "110100"),
    ([None, 0, 1], "111000"),
    ([None, 0, 1, 0], "11100100"),
    ([None, 0, 0, 2], "11011000"),
    ([None, 0, 1, 1, 0, 4], "111010011000"),
    ([None, 0, 1, 2, 0, 4, 4, 0], "1111000110100100"),
]


class Refusals(unittest.TestCase):
    def assert_no_parents(self, thing):
        before = copy.deepcopy(thing)
        self.assertIs(is_tree(thing), False)
        with self.assertRaises(NoTree):
            pressed(thing)
        self.assertEqual(thing, before)

    def assert_no_bits(self, thing):
        with self.assertRaises(NoTree):
            plain(thing)


class Interface(unittest.TestCase):
    def test_functions_stand_in_their_file_with_their_names(self):
        for function in (is_tree, pressed, plain):
            self.assertEqual(function.__module__, "knotbits.trees")
            self.assertIs(getattr(trees, function.__name__), function)

    def test_arguments_have_their_names(self):
        self.assertIs(is_tree(parents=[None, 0]), True)
        self.assertEqual(pressed(parents=[None, 0]), "1100")
        self.assertEqual(plain(bits="1100"), [None, 0])


class Parents(Refusals):
    def test_trees_are_trees(self):
        for parents in some_trees():
            self.assertIs(is_tree(parents), True)

    def test_2000_knots_are_taken_and_2001_are_refused(self):
        for shape in (path, star, comb, lambda knots: random_tree(knots, 4)):
            self.assertIs(is_tree(shape(2000)), True)
            self.assertEqual(len(pressed(shape(2000))), 4000)
            self.assert_no_parents(shape(2001))
            self.assert_no_parents(shape(2500))

    def test_of_all_short_lists_just_the_trees_are_trees(self):
        for knots in range(1, 6):
            expected = every_tree(knots)
            for rest in itertools.product(range(-1, knots + 1), repeat=knots - 1):
                parents = [None, *rest]
                if parents in expected:
                    self.assertIs(is_tree(parents), True)
                else:
                    self.assert_no_parents(parents)

    def test_the_number_of_trees_is_that_of_catalan(self):
        for knots, many in ((1, 1), (2, 1), (3, 2), (4, 5), (5, 14), (6, 42), (7, 132)):
            self.assertEqual(len(every_tree(knots)), many)

    def test_the_first_is_none(self):
        for first in [0, 1, -1, 2000] + NO_NUMBERS[1:]:
            self.assert_no_parents([first])
            self.assert_no_parents([first, 0])
            self.assert_no_parents([first, 0, 0, 2])

    def test_only_the_first_is_none(self):
        for at in range(1, 5):
            parents = path(5)
            parents[at] = None
            self.assert_no_parents(parents)

    def test_each_other_is_a_number(self):
        for wrong in NO_NUMBERS:
            for at in range(1, 4):
                for shape in (path, star):
                    parents = shape(4)
                    parents[at] = wrong
                    self.assert_no_parents(parents)

    def test_truths_are_no_numbers(self):
        self.assert_no_parents([None, False])
        self.assert_no_parents([None, 0, False])
        self.assert_no_parents([None, 0, True])
        self.assert_no_parents([None, 0, 1, True])

    def test_the_knot_ahead_or_an_elder_of_it_and_none_else(self):
        for parents in (path(12), star(12), comb(12), random_tree(12, 5), random_tree(12, 6)):
            for knot in range(1, 12):
                allowed = elders_and_self(parents, knot - 1)
                for parent in range(-2, 14):
                    begun = parents[:knot] + [parent]
                    if parent in allowed:
                        self.assertIs(is_tree(begun), True)
                    else:
                        self.assert_no_parents(begun)

    def test_a_knot_that_was_done_gets_no_more_kids(self):
        self.assert_no_parents([None, 0, 0, 1])
        self.assert_no_parents([None, 0, 1, 0, 2])
        self.assert_no_parents([None, 0, 1, 0, 1])
        self.assert_no_parents(star(1999) + [1])

    def test_itself_a_later_one_or_one_below_nought(self):
        for wrong in (1, 2, 3, 10 ** 5000, -1, -2, -(10 ** 5000)):
            self.assert_no_parents([None, wrong])
            self.assert_no_parents([None, wrong, 0, 0])
        self.assert_no_parents([None, 0, 2])
        self.assert_no_parents([None, 0, 3, 2])

    def test_what_is_wrong_at_the_very_end(self):
        for wrong in (1999, 2000, -1, None, "0", True):
            self.assert_no_parents(path(1999) + [wrong])

    def test_the_empty_list(self):
        self.assert_no_parents([])

    def test_what_is_no_list(self):
        for thing in (
            (), (None,), (None, 0), tuple(path(9)), {}, {0: None}, {0: None, 1: 0}, {None: 0},
            None, True, False, 0, 1, -1, 2, "", "0", "10", "1100", "None",
        ):
            self.assert_no_parents(thing)

    def test_lists_within_lists(self):
        deep = [None]
        for _ in range(50):
            deep = [None, deep]
        self.assert_no_parents(deep)
        self.assert_no_parents([[None]])
        self.assert_no_parents([[None, 0]])

    def test_lists_too_deep_to_be_compared_or_shown(self):
        deep = []
        for _ in range(20000):
            deep = [deep]
        for parents in (deep, [None, deep], [None, 0, deep], [None, (deep,)], (deep,)):
            self.assertIs(is_tree(parents), False)
            with self.assertRaises(NoTree):
                pressed(parents)
            with self.assertRaises(NoTree):
                plain(parents)


class Bits(Refusals):
    def test_bits_by_hand(self):
        for parents, bits in BY_HAND:
            self.assertEqual(pressed(parents), bits)
            self.assertEqual(plain(bits), parents)

    def test_bits_by_another_reckoning(self):
        for parents in some_trees():
            bits = pressed(parents)
            self.assertIsInstance(bits, str)
            self.assertEqual(len(bits), 2 * len(parents))
            self.assertEqual(bits, bits_by_kids(parents))

    def test_plain_leads_back(self):
        for parents in some_trees():
            back = plain(bits_by_kids(parents))
            self.assertIs(back[0], None)
            self.assertEqual(back, parents)
            self.assertTrue(all(isinstance(parent, int) for parent in back[1:]))

    def test_of_all_short_texts_just_the_trees_bits_lead_back(self):
        many = 0
        for length in range(0, 13):
            for signs in itertools.product("01", repeat=length):
                bits = "".join(signs)
                if is_one_trees_bits(bits):
                    many += 1
                    self.assertEqual(plain(bits), parents_by_heights(bits))
                else:
                    self.assert_no_bits(bits)
        self.assertEqual(many, 1 + 1 + 2 + 5 + 14 + 42)

    def test_bits_put_in_left_out_exchanged_or_cut(self):
        for parents in (path(7), star(7), comb(7), random_tree(9, 7), random_tree(9, 8)):
            bits = bits_by_kids(parents)
            for at in range(len(bits)):
                self.assert_no_bits(bits[:at] + bits[at + 1:])
                self.assert_no_bits(bits[:at])
                self.assert_no_bits(bits[at + 1:])
                self.assert_no_bits(bits[:at] + "10"[int(bits[at])] + bits[at + 1:])
                self.assert_no_bits(bits[:at] + "0" + bits[at:])
                self.assert_no_bits(bits[:at] + "1" + bits[at:])
            self.assert_no_bits(bits + "0")
            self.assert_no_bits(bits + "1")
            self.assert_no_bits(bits[::-1])

    def test_many_bits_with_one_put_in_or_left_out(self):
        for bits in ("1" * 1000 + "0" * 1000, "1" + "10" * 1000 + "0"):
            for wrong in (bits[1:], bits[:-1], bits + "0", "1" + bits, "0" + bits, bits + "1"):
                self.assert_no_bits(wrong)

    def test_two_trees_behind_one_another(self):
        for first in ("10", "1100", "110100"):
            for second in ("10", "1100", "110100"):
                self.assert_no_bits(first + second)
        self.assert_no_bits("10" * 3)
        self.assert_no_bits("10" * 2000)

    def test_other_signs(self):
        for bits in (
            "a", "ab", " ", "1 0", " 10", "10 ", "10\n", "\n10", "1\n0", "12", "20", "1O", "l0",
            "1x0", "11x00", "1200", "1102", "x10", "10x", "11000x", "[]", "()", "0b10", "1.0",
            "\uff11\uff10", "1\u0660", "1-0", "+10", "None",
        ):
            self.assert_no_bits(bits)

    def test_the_empty_text(self):
        self.assert_no_bits("")

    def test_2000_knots_are_taken_and_2001_are_refused(self):
        for shape in (path, star, comb, lambda knots: random_tree(knots, 4)):
            self.assertEqual(plain(bits_by_kids(shape(2000))), shape(2000))
            self.assert_no_bits(bits_by_kids(shape(2001)))
            self.assert_no_bits(bits_by_kids(shape(2500)))

    def test_what_is_no_text(self):
        for thing in (
            None, True, False, 0, 1, 10, 1100, -1, 10 ** 5000, [], ["1", "0"], [1, 0], ["10"],
            [None], [None, 0], (), ("1", "0"), (1, 0), {}, {"1": 0, "0": 1}, {1: "1", 0: "0"},
        ):
            self.assert_no_bits(thing)


class HandedIn(unittest.TestCase):
    def test_parents_stay_as_they_were(self):
        for parents in some_trees():
            before = list(parents)
            is_tree(parents)
            pressed(parents)
            self.assertEqual(parents, before)

    def test_parents_are_not_kept(self):
        parents = [None, 0, 1]
        self.assertEqual(pressed(parents), "111000")
        parents[2] = 0
        self.assertEqual(pressed(parents), "110100")
        parents[2] = 2
        self.assertIs(is_tree(parents), False)

    def test_plain_answers_the_askers_own_list(self):
        first = plain("111000")
        second = plain("111000")
        self.assertIsNot(first, second)
        first[1] = 7
        first.append(8)
        self.assertEqual(second, [None, 0, 1])
        self.assertEqual(plain("111000"), [None, 0, 1])


if __name__ == "__main__":
    unittest.main()
