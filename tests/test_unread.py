"""Point 9: an answer does not hang on blocks that were not asked for."""

import unittest

from knotbits.blocks import Blocks
from knotbits.books import book_of
from tests.plain_tree import PlainTree, ask
from tests.shapes import asked_trees, every_tree

FILLINGS = [
    lambda text: "0" * len(text),
    lambda text: "1" * len(text),
    lambda text: "".join("10"[int(bit)] for bit in text),
    lambda text: ("01" * len(text))[:len(text)],
    lambda text: ("10" * len(text))[:len(text)],
]


def parts_of(bits, size):
    return [bits[first:first + size] for first in range(0, len(bits), size)]


class Unread(unittest.TestCase):
    def assert_blind(self, tree, size, questions, fillings):
        book = book_of(tree.bits, size)
        parts = parts_of(tree.bits, size)
        filled = [[filling(part) for part in parts] for filling in fillings]
        for name, arguments, expected in questions:
            first = Blocks(tree.bits, size)
            self.assertEqual(ask(name, book, first, arguments), expected)
            asked = first.asked()
            for others in filled:
                mixed = list(others)
                for number in asked:
                    mixed[number] = parts[number]
                blocks = Blocks("".join(mixed), size)
                answer = ask(name, book, blocks, arguments)
                if answer != expected or blocks.asked() != asked:
                    self.fail((name, arguments, size, tree.parents, answer, blocks.asked()))

    def test_fillings_are_as_long_and_unlike(self):
        for text in ("0", "1", "1101", "00", "1010"):
            told = [filling(text) for filling in FILLINGS]
            self.assertTrue(all(len(other) == len(text) for other in told))
            self.assertTrue(any(other != text for other in told))
        self.assertEqual([filling("110") for filling in FILLINGS],
                         ["000", "111", "001", "010", "101"])

    def test_every_small_tree_in_every_size(self):
        for knots in range(1, 6):
            for parents in every_tree(knots):
                tree = PlainTree(parents)
                for size in range(1, 2 * knots):
                    self.assert_blind(tree, size, tree.of_knots(), FILLINGS)
                    self.assert_blind(tree, size, tree.of_pairs(), FILLINGS)

    def test_each_shape_of_24_knots(self):
        for _, parents in asked_trees(24):
            tree = PlainTree(parents)
            for size in (1, 2, 3, 5, 8, 11, 23, 47, 49):
                self.assert_blind(tree, size, tree.of_knots(), FILLINGS)
                self.assert_blind(tree, size, tree.of_pairs(), FILLINGS)

    def test_each_shape_of_160_knots(self):
        for _, parents in asked_trees(160):
            tree = PlainTree(parents)
            for size in (1, 2, 3, 10, 27, 64, 159, 319, 321):
                self.assert_blind(tree, size, tree.of_knots(), FILLINGS)
                self.assert_blind(tree, size, tree.of_pairs(89), FILLINGS)


if __name__ == "__main__":
    unittest.main()
