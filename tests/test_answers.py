"""Point 8: each question of each knot, against walks along the parents, and what it read."""

import unittest

from knotbits import answers
from knotbits.blocks import Blocks
from knotbits.books import book_of, size_for
from tests.plain_tree import MOST, PlainTree, ask
from tests.shapes import asked_trees, every_tree, parents_by_heights, path, random_tree, star

# 0 has the kids 1, 4 and 7; 1 the kids 2 and 3; 4 the kid 5, and that one 6.
EIGHT = [None, 0, 1, 1, 0, 4, 5, 0]
EIGHT_BITS = "1110100111000100"


def sizes_of(knots):
    """The sizes 1, 2 and 3, some between, and some greater than the bits."""
    length = 2 * knots
    between = [4, 5, 8, 17, 64, length // 3, length // 2, length - 1, length]
    return [1, 2, 3] + sorted({size for size in between if 3 < size <= length}) + [length + 1]


class Questions(unittest.TestCase):
    def assert_answers(self, tree, size, questions):
        book = book_of(tree.bits, size)
        for name, arguments, expected in questions:
            blocks = Blocks(tree.bits, size)
            answer = ask(name, book, blocks, arguments)
            asked = blocks.asked()
            if answer != expected or len(asked) > MOST[name]:
                self.fail((name, arguments, expected, answer, asked, size, tree.parents))
            if type(answer) is not type(expected):
                self.fail((name, arguments, answer))


class Interface(unittest.TestCase):
    def test_functions_stand_in_their_file_with_their_names(self):
        for name in MOST:
            function = getattr(answers, name)
            self.assertEqual((function.__module__, function.__name__), ("knotbits.answers", name))

    def test_arguments_have_their_names(self):
        told = {"book": book_of(EIGHT_BITS, 5), "blocks": Blocks(EIGHT_BITS, 5)}
        self.assertEqual(answers.place_of(knot=4, **told), 7)
        self.assertEqual(answers.depth_of(knot=4, **told), 1)
        self.assertEqual(answers.knot_at(place=7, **told), 4)
        self.assertEqual(answers.above(knot=4, **told), 0)
        self.assertEqual(answers.beneath(knot=4, **told), 2)
        self.assertEqual(answers.beside(knot=4, **told), 7)
        self.assertEqual(answers.kids(knot=4, **told), 1)
        self.assertEqual(answers.kid(knot=4, number=0, **told), 5)
        self.assertEqual(answers.elder(one=6, other=7, **told), 0)


class ByHand(unittest.TestCase):
    def assert_row(self, name, expected):
        for size in (1, 2, 3, 4, 5, 7, 8, 9, 15, 16, 17, 4000):
            book = book_of(EIGHT_BITS, size)
            row = [ask(name, book, Blocks(EIGHT_BITS, size), (at,)) for at in range(len(expected))]
            self.assertEqual(row, expected)

    def test_the_tree_is_that_of_the_bits(self):
        self.assertEqual(parents_by_heights(EIGHT_BITS), EIGHT)

    def test_each_question(self):
        self.assert_row("place_of", [0, 1, 2, 4, 7, 8, 9, 13])
        self.assert_row("depth_of", [0, 1, 2, 2, 1, 2, 3, 1])
        self.assert_row("knot_at", [0, 1, 2, 2, 3, 3, 1, 4, 5, 6, 6, 5, 4, 7, 7, 0])
        self.assert_row("above", [None, 0, 1, 1, 0, 4, 5, 0])
        self.assert_row("beneath", [7, 2, 0, 0, 2, 1, 0, 0])
        self.assert_row("beside", [None, 4, 3, None, 7, None, None, None])
        self.assert_row("kids", [3, 2, 0, 0, 1, 1, 0, 0])

    def test_kid(self):
        for size in (1, 2, 3, 4, 5, 7, 8, 9, 15, 16, 17, 4000):
            book = book_of(EIGHT_BITS, size)
            for knot, expected in (
                (0, [1, 4, 7, None, None]), (1, [2, 3, None]), (2, [None, None]), (4, [5, None]),
                (5, [6, None]), (7, [None]),
            ):
                for number, child in enumerate(expected):
                    blocks = Blocks(EIGHT_BITS, size)
                    self.assertEqual(answers.kid(book, blocks, knot, number), child)
                for number in (99, 4000, 10 ** 30):
                    blocks = Blocks(EIGHT_BITS, size)
                    self.assertIs(answers.kid(book, blocks, knot, number), None)

    def test_elder(self):
        for size in (1, 2, 3, 4, 5, 7, 8, 9, 15, 16, 17, 4000):
            book = book_of(EIGHT_BITS, size)
            for one, other, expected in (
                (0, 0, 0), (0, 6, 0), (2, 3, 1), (1, 3, 1), (3, 4, 0), (6, 7, 0), (4, 6, 4),
                (5, 6, 5), (6, 6, 6), (1, 4, 0), (2, 7, 0), (7, 7, 7), (4, 5, 4),
            ):
                for pair in ((one, other), (other, one)):
                    self.assertEqual(answers.elder(book, Blocks(EIGHT_BITS, size), *pair), expected)


class OneKnot(unittest.TestCase):
    def test_each_question(self):
        for size in (1, 2, 3, 4000):
            told = book_of("10", size), Blocks("10", size)
            self.assertEqual(answers.place_of(*told, 0), 0)
            self.assertEqual(answers.depth_of(*told, 0), 0)
            self.assertEqual(answers.knot_at(*told, 0), 0)
            self.assertEqual(answers.knot_at(*told, 1), 0)
            self.assertIs(answers.above(*told, 0), None)
            self.assertEqual(answers.beneath(*told, 0), 0)
            self.assertIs(answers.beside(*told, 0), None)
            self.assertEqual(answers.kids(*told, 0), 0)
            self.assertIs(answers.kid(*told, 0, 0), None)
            self.assertEqual(answers.elder(*told, 0, 0), 0)


class AgainstWalks(Questions):
    def test_every_small_tree_in_every_size(self):
        for knots in range(1, 7):
            for parents in every_tree(knots):
                tree = PlainTree(parents)
                for size in range(1, 2 * knots + 2):
                    self.assert_answers(tree, size, tree.of_knots())
                    self.assert_answers(tree, size, tree.of_pairs())

    def test_each_shape_in_every_size(self):
        for knots in (2, 7, 20):
            for _, parents in asked_trees(knots):
                tree = PlainTree(parents)
                for size in range(1, 2 * knots + 2):
                    self.assert_answers(tree, size, tree.of_knots())
                    self.assert_answers(tree, size, tree.of_pairs())

    def test_each_knot_of_160(self):
        for knots in (100, 159, 160):
            for _, parents in asked_trees(knots):
                tree = PlainTree(parents)
                for size in sizes_of(knots):
                    self.assert_answers(tree, size, tree.of_knots())

    def test_each_pair_of_45(self):
        for _, parents in asked_trees(45):
            tree = PlainTree(parents)
            for size in sizes_of(45):
                self.assert_answers(tree, size, tree.of_pairs())

    def test_each_pair_of_160(self):
        for _, parents in asked_trees(160):
            tree = PlainTree(parents)
            questions = list(tree.of_pairs())
            for size in (1, 2, 3, 18, 64, 321):
                self.assert_answers(tree, size, questions)

    def test_many_trees_by_chance(self):
        for seed in range(60):
            tree = PlainTree(random_tree(10 + seed, seed, 5 + 7 * seed % 90))
            for size in (1, 2, 3, 4 + seed % 7, 12 + seed % 11, 40):
                self.assert_answers(tree, size, tree.of_knots())
                self.assert_answers(tree, size, tree.of_pairs(7))

    def test_sizes_that_belong_to_shares(self):
        for _, parents in asked_trees(160):
            tree = PlainTree(parents)
            for share in (1, 2, 5, 100):
                size = size_for(len(tree.bits), share)
                self.assert_answers(tree, size, tree.of_knots())
                self.assert_answers(tree, size, tree.of_pairs(97))

    def test_the_most_blocks_are_needed_at_times(self):
        """That the counting counts: some question of each kind asks for as many as it may."""
        for name, parents, arguments, size in (
            ("place_of", path(9), (8,), 1), ("depth_of", path(9), (8,), 1),
            ("knot_at", path(9), (17,), 2), ("above", star(9), (8,), 1),
            ("beneath", path(9), (0,), 2), ("beside", path(2) + [0], (1,), 1),
            ("kids", star(9), (0,), 2), ("kid", star(9), (0, 4), 2), ("elder", star(9), (4, 8), 1),
        ):
            tree = PlainTree(parents)
            blocks = Blocks(tree.bits, size)
            ask(name, book_of(tree.bits, size), blocks, arguments)
            self.assertEqual(len(blocks.asked()), MOST[name], name)


if __name__ == "__main__":
    unittest.main()
