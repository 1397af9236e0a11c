"""Point 1, over the whole program: nothing is kept, nothing is changed, all is as in the tree."""

import random
import unittest

from knotbits.blocks import Blocks
from knotbits.books import book_of, size_for, weight_of, width_of
from knotbits.trees import plain, pressed
from tests.plain_tree import MOST, PlainTree, ask
from tests.shapes import asked_trees, path, random_tree, star


class AskedTwice(unittest.TestCase):
    def test_behind_other_questions_of_one_blocks_and_of_another(self):
        for at, (_, parents) in enumerate(asked_trees(40)):
            tree = PlainTree(parents)
            questions = list(tree.of_knots()) + list(tree.of_pairs(3))
            random.Random(at).shuffle(questions)
            for size in (1, 4, 9, 81):
                book = book_of(tree.bits, size)
                before = list(book)
                blocks = Blocks(tree.bits, size)
                for name, arguments, expected in questions + questions[::-1]:
                    self.assertEqual(ask(name, book, blocks, arguments), expected)
                    fresh = Blocks(tree.bits, size)
                    self.assertEqual(ask(name, book, fresh, arguments), expected)
                    self.assertLessEqual(len(fresh.asked()), MOST[name])
                    self.assertEqual((blocks.length, blocks.size), (80, size))
                self.assertEqual(book, before)

    def test_the_same_blocks_are_asked_for_whatever_was_asked_ahead(self):
        tree = PlainTree(random_tree(60, 3))
        book = book_of(tree.bits, 7)
        asked = []
        for name, arguments, _ in tree.of_knots():
            blocks = Blocks(tree.bits, 7)
            ask(name, book, blocks, arguments)
            asked.append(blocks.asked())
        used = Blocks(tree.bits, 7)
        for (name, arguments, _), expected in zip(tree.of_knots(), asked):
            ahead = used.asked()
            ask(name, book, used, arguments)
            # Each that is new stands at the end, in the order in which a fresh one is asked.
            new = [number for number in expected if number not in ahead]
            self.assertEqual(used.asked(), ahead + new)

    def test_trees_by_turns(self):
        trees = [PlainTree(parents) for parents in (path(30), star(30), random_tree(30, 4))]
        told = [(book_of(tree.bits, 5), Blocks(tree.bits, 5)) for tree in trees]
        for rows in zip(*[list(tree.of_pairs(11)) + list(tree.of_knots()) for tree in trees]):
            for (name, arguments, expected), (book, blocks) in zip(rows, told):
                self.assertEqual(ask(name, book, blocks, arguments), expected)


class HandedIn(unittest.TestCase):
    def test_the_book_stays_as_it_was_and_is_not_kept(self):
        tree = PlainTree(random_tree(30, 5))
        other = PlainTree(star(30))
        book = book_of(tree.bits, 5)
        blocks = Blocks(tree.bits, 5)
        before = list(book)
        for name, arguments, expected in tree.of_knots():
            self.assertEqual(ask(name, book, blocks, arguments), expected)
            self.assertEqual(book, before)
        # The same list with another tree's rows is another tree's book.
        book[:] = book_of(other.bits, 5)
        for name, arguments, expected in other.of_knots():
            self.assertEqual(ask(name, book, Blocks(other.bits, 5), arguments), expected)

    def test_a_book_that_equals_it_does_as_well(self):
        tree = PlainTree(random_tree(30, 6))
        blocks = Blocks(tree.bits, 4)
        for name, arguments, expected in tree.of_knots():
            book = [tuple(list(row)) for row in book_of(tree.bits, 4)]
            self.assertEqual(ask(name, book, blocks, arguments), expected)


class Together(unittest.TestCase):
    def test_from_parents_to_answers_by_a_share(self):
        for _, parents in asked_trees(160):
            bits = pressed(parents)
            tree = PlainTree(plain(bits))
            for share in (1, 3, 100):
                size = size_for(len(bits), share)
                book = book_of(bits, size)
                less = weight_of(book, len(bits)) - 3 * width_of(len(bits))
                self.assertLessEqual(share * less, len(bits))
                for name, arguments, expected in tree.of_knots():
                    blocks = Blocks(bits, size)
                    self.assertEqual(ask(name, book, blocks, arguments), expected)
                    self.assertLessEqual(len(blocks.asked()), MOST[name])

    def test_two_bits_a_knot(self):
        for _, parents in asked_trees(160):
            self.assertEqual(len(pressed(parents)), 2 * len(parents))


if __name__ == "__main__":
    unittest.main()
