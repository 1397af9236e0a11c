"""Point 10, as far as it speaks of questions: NoKnot, and no block asked for."""

import unittest

from knotbits.blocks import Blocks
from knotbits.books import book_of
from knotbits.errors import KnotError, NoKnot
from tests.plain_tree import MOST, OF_A_KNOT, PlainTree, ask
from tests.shapes import NO_NUMBERS, asked_trees, path, random_tree, star

DEEP = [[[[{"a": [None, (True, {})]}]]], ({1: 2}, [3]), {"knot": {"knot": 0}}]
NEVER = [-1, -2, -160, 10 ** 5000, -(10 ** 5000)] + NO_NUMBERS + DEEP

TREES = [[None], path(2), star(2), path(30), star(30), random_tree(30, 1), random_tree(160, 2)]


def wrong_numbers(many):
    """What is none of so many numbers from nought on."""
    return NEVER + [many, many + 1, 2 * many, 2 * many + 1, 4000, 4001]


class Refusals(unittest.TestCase):
    def assert_refused(self, book, blocks, name, *arguments):
        before = blocks.asked()
        with self.assertRaises(NoKnot):
            ask(name, book, blocks, arguments)
        self.assertEqual(blocks.asked(), before)

    def each_tree(self):
        for parents in TREES:
            tree = PlainTree(parents)
            for size in (1, 3, 7, 4000):
                yield tree, book_of(tree.bits, size), size


class NoKnots(Refusals):
    def test_questions_of_a_knot(self):
        for tree, book, size in self.each_tree():
            blocks = Blocks(tree.bits, size)
            for name in OF_A_KNOT:
                for wrong in wrong_numbers(tree.knots):
                    self.assert_refused(book, blocks, name, wrong)
            self.assertEqual(blocks.asked(), [])

    def test_kid(self):
        for tree, book, size in self.each_tree():
            blocks = Blocks(tree.bits, size)
            for wrong in wrong_numbers(tree.knots):
                for number in (0, 1, 2, 400):
                    self.assert_refused(book, blocks, "kid", wrong, number)
            self.assertEqual(blocks.asked(), [])

    def test_no_place(self):
        for tree, book, size in self.each_tree():
            blocks = Blocks(tree.bits, size)
            for wrong in wrong_numbers(2 * tree.knots):
                self.assert_refused(book, blocks, "knot_at", wrong)
            self.assertEqual(blocks.asked(), [])

    def test_elder_with_one_wrong_or_both(self):
        for tree, book, size in self.each_tree():
            blocks = Blocks(tree.bits, size)
            for wrong in wrong_numbers(tree.knots):
                for right in (0, tree.knots - 1):
                    self.assert_refused(book, blocks, "elder", wrong, right)
                    self.assert_refused(book, blocks, "elder", right, wrong)
                self.assert_refused(book, blocks, "elder", wrong, wrong)
                self.assert_refused(book, blocks, "elder", wrong, -1)
                self.assert_refused(book, blocks, "elder", None, wrong)
            self.assertEqual(blocks.asked(), [])

    def test_the_last_ones_that_are_right(self):
        for tree, book, size in self.each_tree():
            last = tree.knots - 1
            blocks = Blocks(tree.bits, size)
            self.assertEqual(ask("place_of", book, blocks, (last,)), tree.places[last])
            self.assertEqual(ask("knot_at", book, blocks, (2 * last + 1,)), 0)
            self.assertEqual(ask("elder", book, blocks, (last, last)), last)
            self.assertEqual(ask("elder", book, blocks, (0, last)), 0)

    def test_many_places_are_no_knots(self):
        tree = PlainTree(path(4))
        book = book_of(tree.bits, 3)
        for number in range(4, 8):
            self.assertEqual(ask("knot_at", book, Blocks(tree.bits, 3), (number,)), 7 - number)
            for name in OF_A_KNOT:
                self.assert_refused(book, Blocks(tree.bits, 3), name, number)

    def test_they_are_of_the_class_of_all_refusals(self):
        for error in (KnotError, ValueError):
            with self.assertRaises(error):
                ask("place_of", book_of("10", 1), Blocks("10", 1), (1,))

    def test_what_is_wrong_stays_as_it_was(self):
        book = book_of("1100", 3)
        for name in MOST:
            for wrong in ([0], [[1], {}], {0: [1]}, (0, [1])):
                before = repr(wrong)
                arguments = (wrong, 0) if name in ("kid", "elder") else (wrong,)
                self.assert_refused(book, Blocks("1100", 3), name, *arguments)
                self.assertEqual(repr(wrong), before)


class AheadAndBehind(Refusals):
    def test_right_questions_between_refused_ones(self):
        for _, parents in asked_trees(25):
            tree = PlainTree(parents)
            book = book_of(tree.bits, 6)
            blocks = Blocks(tree.bits, 6)
            wrongs = wrong_numbers(25)
            for at, (name, arguments, expected) in enumerate(tree.of_knots()):
                self.assertEqual(ask(name, book, blocks, arguments), expected)
                wrong = wrongs[at % len(wrongs)]
                self.assert_refused(book, blocks, "above", wrong)
                self.assert_refused(book, blocks, "elder", at % 25, wrong)
                self.assert_refused(book, blocks, "elder", wrong, at % 25)
                self.assert_refused(book, blocks, "knot_at", 50 + at)
                self.assertEqual(ask(name, book, blocks, arguments), expected)


if __name__ == "__main__":
    unittest.main()
