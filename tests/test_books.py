"""Points 4, 6 and 7, and points 1 and 10 as far as they speak of books."""

import unittest

from knotbits import books
from knotbits.blocks import Blocks
from knotbits.books import book_of, size_for, weight_of, width_of
from knotbits.errors import NoSize
from tests.plain_tree import PlainTree
from tests.shapes import NO_NUMBERS, asked_trees, bits_by_kids, every_tree, path, random_tree, star

NO_SIZES = [0, -1, -2, 4001, 4002, 10 ** 5000, -(10 ** 5000)] + NO_NUMBERS
NO_SHARES = [0, -1, -2, -100, 101, 102, 4000, 10 ** 5000, -(10 ** 5000)] + NO_NUMBERS


def sizes_of(bits):
    return sorted({1, 2, 3, 4, 5, 7, 16, 31, len(bits) // 2, len(bits) - 1, len(bits),
                   len(bits) + 1, 2 * len(bits), 4000})


def book_by_walks(tree, size):
    """The book, from the depths of the knots alone."""
    rows = []
    for first in range(0, 2 * tree.knots, size):
        behind = tree.heights[first + 1:first + size + 1]
        rows.append((tree.heights[first], min(behind), behind.count(min(behind))))
    return rows


def book_by_counts(bits, size):
    """The book, each height counted anew from the front of the bits."""
    def height(place):
        return bits[:place].count("1") - bits[:place].count("0")

    rows = []
    for first in range(0, len(bits), size):
        behind = [height(place + 1) for place in range(first, min(first + size, len(bits)))]
        rows.append((height(first), min(behind), len([h for h in behind if h == min(behind)])))
    return rows


class Interface(unittest.TestCase):
    def test_functions_stand_in_their_file_with_their_names(self):
        for function in (book_of, width_of, weight_of, size_for):
            self.assertEqual(function.__module__, "knotbits.books")
            self.assertIs(getattr(books, function.__name__), function)

    def test_arguments_have_their_names(self):
        self.assertEqual(book_of(bits="1100", size=4), [(0, 0, 1)])
        self.assertEqual(width_of(length=4), 3)
        self.assertEqual(weight_of(book=[(0, 0, 1)], length=4), 9)
        self.assertEqual(size_for(length=4, share=2), 18)


class Books(unittest.TestCase):
    def assert_book(self, book, expected):
        self.assertEqual(book, expected)
        self.assertIs(type(book), list)
        for row in book:
            self.assertIs(type(row), tuple)
            self.assertEqual([type(number) for number in row], [int, int, int])

    def test_books_by_hand(self):
        # Heights of 1101100100: 0 1 2 1 2 3 2 1 2 1 0.
        bits = "1101100100"
        self.assert_book(book_of(bits, 10), [(0, 0, 1)])
        self.assert_book(book_of(bits, 11), [(0, 0, 1)])
        self.assert_book(book_of(bits, 5), [(0, 1, 2), (3, 0, 1)])
        self.assert_book(book_of(bits, 4), [(0, 1, 2), (2, 1, 1), (2, 0, 1)])
        self.assert_book(book_of(bits, 3), [(0, 1, 2), (1, 2, 2), (2, 1, 2), (1, 0, 1)])
        self.assert_book(book_of(bits, 9), [(0, 1, 4), (1, 0, 1)])
        self.assert_book(book_of(bits, 2), [(0, 1, 1), (2, 1, 1), (2, 2, 1), (2, 1, 1), (2, 0, 1)])

    def test_one_knot(self):
        self.assert_book(book_of("10", 1), [(0, 1, 1), (1, 0, 1)])
        for size in (2, 3, 4, 3999, 4000):
            self.assert_book(book_of("10", size), [(0, 0, 1)])

    def test_the_height_ahead_of_a_block_does_not_count_as_its_least(self):
        self.assert_book(book_of("110100", 2), [(0, 1, 1), (2, 1, 1), (2, 0, 1)])
        self.assert_book(book_of("111000", 3), [(0, 1, 1), (3, 0, 1)])

    def test_a_least_height_that_comes_more_than_once(self):
        bits = bits_by_kids(star(50))
        self.assert_book(book_of(bits, 99), [(0, 1, 50), (1, 0, 1)])
        self.assert_book(book_of(bits, 50), [(0, 1, 25), (2, 0, 1)])
        self.assert_book(book_of(bits, 49), [(0, 1, 25), (1, 1, 24), (2, 0, 1)])
        self.assertTrue(any(row[2] > 1 for row in book_of(bits_by_kids(random_tree(99, 3)), 9)))

    def test_every_small_tree_in_every_size(self):
        for knots in range(1, 7):
            for parents in every_tree(knots):
                tree = PlainTree(parents)
                for size in range(1, 2 * knots + 3):
                    self.assert_book(book_of(tree.bits, size), book_by_walks(tree, size))
                    self.assert_book(book_of(tree.bits, size), book_by_counts(tree.bits, size))

    def test_each_shape_in_every_size(self):
        for knots in (1, 2, 9, 40):
            for _, parents in asked_trees(knots):
                tree = PlainTree(parents)
                for size in range(1, 2 * knots + 4):
                    self.assert_book(book_of(tree.bits, size), book_by_walks(tree, size))

    def test_each_shape_of_160_knots(self):
        for _, parents in asked_trees(160):
            tree = PlainTree(parents)
            for size in sizes_of(tree.bits):
                book = book_of(tree.bits, size)
                self.assert_book(book, book_by_walks(tree, size))
                self.assert_book(book, book_by_counts(tree.bits, size))
                self.assertEqual(len(book), Blocks(tree.bits, size).many())

    def test_the_last_block_is_shorter_or_not(self):
        tree = PlainTree(random_tree(30, 4))
        for size, many in ((6, 10), (7, 9), (59, 2), (60, 1), (61, 1), (12, 5), (11, 6), (13, 5)):
            book = book_of(tree.bits, size)
            self.assertEqual(len(book), many)
            self.assertEqual(book, book_by_walks(tree, size))

    def test_a_book_that_was_changed_changes_no_other_one(self):
        bits = bits_by_kids(random_tree(20, 5))
        expected = book_by_counts(bits, 7)
        first = book_of(bits, 7)
        second = book_of(bits, 7)
        self.assertIsNot(first, second)
        first[0] = (9, 9, 9)
        first.append((8, 8, 8))
        self.assertEqual(second, expected)
        self.assertEqual(book_of(bits, 7), expected)
        second.clear()
        self.assertEqual(book_of(bits, 7), expected)
        self.assertEqual(book_of(bits, 8), book_by_counts(bits, 8))

    def test_sizes_that_are_none(self):
        for wrong in NO_SIZES + ["4", [4], (4,), {4: 4}, [[1], {}]]:
            for bits in ("10", "1100", "10" * 2000):
                before = repr(wrong) if isinstance(wrong, (list, tuple, dict)) else None
                with self.assertRaises(NoSize):
                    book_of(bits, wrong)
                if before is not None:
                    self.assertEqual(repr(wrong), before)
        self.assertEqual(book_of("1100", 3), [(0, 1, 2), (1, 0, 1)])

    def test_the_least_and_the_greatest_size(self):
        self.assertEqual(len(book_of("1100", 1)), 4)
        self.assertEqual(len(book_of("1100", 4000)), 1)


class Widths(unittest.TestCase):
    def test_widths_by_hand(self):
        for length, width in (
            (1, 1), (2, 2), (3, 2), (4, 3), (7, 3), (8, 4), (9, 4), (320, 9), (4000, 12),
        ):
            self.assertEqual(width_of(length), width)

    def test_at_each_power_of_two_one_less_and_one_more(self):
        for power in range(1, 12):
            self.assertEqual(width_of(2 ** power - 1), power)
            self.assertEqual(width_of(2 ** power), power + 1)
            self.assertEqual(width_of(2 ** power + 1), power + 1)

    def test_all_widths(self):
        for length in range(1, 4001):
            self.assertEqual(width_of(length), len(format(length, "b")))


class Weights(unittest.TestCase):
    def test_weights_by_hand(self):
        self.assertEqual(weight_of([(0, 0, 1)], 2), 6)
        self.assertEqual(weight_of([(0, 1, 1), (1, 0, 1)], 2), 12)
        self.assertEqual(weight_of([(0, 1, 2), (2, 1, 1), (2, 0, 1)], 10), 36)
        self.assertEqual(weight_of([(0, 0, 1)] * 320, 320), 8640)

    def test_three_times_the_rows_times_the_width(self):
        for knots in (1, 2, 3, 4, 8, 31, 32, 33, 127, 128, 160):
            bits = bits_by_kids(random_tree(knots, 6))
            for size in sizes_of(bits):
                if 1 <= size <= 4000:
                    book = book_of(bits, size)
                    before = list(book)
                    rows = -(-len(bits) // size)
                    self.assertEqual(weight_of(book, len(bits)), 3 * rows * len(f"{len(bits):b}"))
                    self.assertEqual(book, before)


class Sizes(unittest.TestCase):
    def test_sizes_by_hand(self):
        for length, share, size in (
            (1, 1, 3), (2, 1, 6), (2, 100, 600), (8, 1, 12), (8, 5, 60), (320, 1, 27),
            (320, 10, 270), (4000, 1, 36), (4000, 100, 3600),
        ):
            self.assertEqual(size_for(length, share), size)

    def test_each_share_for_each_width(self):
        for share in range(1, 101):
            for length in (1, 2, 3, 4, 7, 8, 15, 16, 255, 256, 320, 2047, 2048, 4000):
                size = size_for(length, share)
                self.assertEqual(size, 3 * len(f"{length:b}") * share)
                self.assertEqual(Blocks("10", size).size, size)

    def test_a_size_is_never_greater_than_4000(self):
        # Of more bits than those of 2000 knots, whose width makes three widths by share too many.
        for length, share, size in (
            (4096, 100, 3900), (8192, 95, 3990), (8192, 96, 4000), (8192, 100, 4000),
            (2 ** 19, 66, 3960), (2 ** 19, 67, 4000), (2 ** 39, 33, 3960), (2 ** 39, 34, 4000),
        ):
            self.assertEqual(size_for(length, share), size)
            self.assertEqual(Blocks("10", size).size, size)

    def test_the_book_is_no_greater_than_the_share_but_for_one_row(self):
        for knots in list(range(1, 40)) + [63, 64, 65, 127, 128, 129, 160]:
            for parents in (path(knots), star(knots), random_tree(knots, 7)):
                bits = bits_by_kids(parents)
                length = len(bits)
                for share in (1, 2, 3, 4, 5, 7, 10, 25, 50, 99, 100):
                    book = book_of(bits, size_for(length, share))
                    less = weight_of(book, length) - 3 * width_of(length)
                    self.assertLessEqual(share * less, length)

    def test_that_for_as_many_bits_as_there_may_be(self):
        for knots in (500, 1000, 1024, 1025, 1999, 2000):
            bits = bits_by_kids(random_tree(knots, 8))
            for share in range(1, 101):
                book = book_of(bits, size_for(len(bits), share))
                less = weight_of(book, len(bits)) - 3 * width_of(len(bits))
                self.assertLessEqual(share * less, len(bits))

    def test_shares_that_are_none(self):
        for wrong in NO_SHARES + ["4", [4], (4,), {4: 4}, [[1], {}]]:
            for length in (1, 2, 320, 4000, 8192):
                with self.assertRaises(NoSize):
                    size_for(length, wrong)
        self.assertEqual(size_for(2, 1), 6)


if __name__ == "__main__":
    unittest.main()
