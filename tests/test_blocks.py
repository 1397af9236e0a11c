"""Point 5, and points 1 and 10 as far as they speak of blocks."""

import random
import unittest

from knotbits import blocks as blocks_file
from knotbits.blocks import Blocks
from knotbits.errors import NoBlock, NoSize
from tests.shapes import NO_NUMBERS, bits_by_kids, path, random_tree, star

TEN = "1101100100"


def all_parts(blocks):
    return [blocks.part(number) for number in range(blocks.many())]


def cut_by_hand(bits, size):
    """The blocks, by taking bits from the front until none is left."""
    parts = []
    while bits:
        parts.append(bits[:size])
        bits = bits[size:]
    return parts


class Interface(unittest.TestCase):
    def test_the_class_stands_in_its_file_with_its_methods(self):
        self.assertEqual(Blocks.__module__, "knotbits.blocks")
        self.assertIs(blocks_file.Blocks, Blocks)
        for name in ("many", "part", "asked"):
            self.assertIn(name, vars(Blocks))

    def test_arguments_have_their_names(self):
        blocks = Blocks(bits=TEN, size=4)
        self.assertEqual(blocks.part(number=1), "1001")

    def test_fields(self):
        for length, size in ((1, 1), (1, 4000), (10, 3), (4000, 4000), (4000, 1), (4000, 160)):
            blocks = Blocks("1" * length, size)
            self.assertEqual((blocks.length, blocks.size), (length, size))


class Cutting(unittest.TestCase):
    def test_blocks_by_hand(self):
        self.assertEqual(all_parts(Blocks(TEN, 4)), ["1101", "1001", "00"])
        self.assertEqual(all_parts(Blocks(TEN, 5)), ["11011", "00100"])
        self.assertEqual(all_parts(Blocks(TEN, 3)), ["110", "110", "010", "0"])
        self.assertEqual(all_parts(Blocks(TEN, 9)), ["110110010", "0"])
        self.assertEqual(all_parts(Blocks(TEN, 10)), [TEN])
        self.assertEqual(all_parts(Blocks(TEN, 11)), [TEN])
        self.assertEqual(all_parts(Blocks(TEN, 4000)), [TEN])
        self.assertEqual(all_parts(Blocks(TEN, 1)), list(TEN))

    def test_every_size_for_some_bits(self):
        for bits in ("1", "10", TEN, bits_by_kids(random_tree(33, 1))):
            for size in list(range(1, len(bits) + 3)) + [3999, 4000]:
                blocks = Blocks(bits, size)
                expected = cut_by_hand(bits, size)
                self.assertEqual(blocks.many(), len(expected))
                self.assertEqual(all_parts(blocks), expected)

    def test_every_size_for_many_bits(self):
        bits = bits_by_kids(random_tree(2000, 2))
        for size in range(1, 4001):
            blocks = Blocks(bits, size)
            self.assertEqual(blocks.size, size)
            self.assertEqual(blocks.many(), -(-4000 // size))
            last = blocks.part(blocks.many() - 1)
            self.assertEqual(len(last), 4000 - size * (blocks.many() - 1))
            self.assertTrue(1 <= len(last) <= size)
            self.assertEqual(blocks.part(0), bits[:size])

    def test_all_together_they_are_the_bits(self):
        for bits in (bits_by_kids(path(160)), bits_by_kids(star(160)), "1" * 4000):
            for size in (1, 2, 7, 64, 160, 319, 320, 321, 1999, 4000):
                self.assertEqual("".join(all_parts(Blocks(bits, size))), bits)

    def test_bits_need_not_be_those_of_a_tree(self):
        self.assertEqual(all_parts(Blocks("00111", 2)), ["00", "11", "1"])


class Asked(unittest.TestCase):
    def test_nothing_was_asked_at_first(self):
        blocks = Blocks(TEN, 2)
        self.assertEqual(blocks.asked(), [])
        self.assertIsInstance(blocks.asked(), list)
        blocks.many()
        self.assertEqual(blocks.asked(), [])

    def test_each_once_in_the_order_of_first_asking(self):
        blocks = Blocks(TEN, 2)
        for number, expected in (
            (3, [3]), (0, [3, 0]), (3, [3, 0]), (4, [3, 0, 4]), (0, [3, 0, 4]),
            (1, [3, 0, 4, 1]), (4, [3, 0, 4, 1]), (2, [3, 0, 4, 1, 2]), (1, [3, 0, 4, 1, 2]),
        ):
            blocks.part(number)
            self.assertEqual(blocks.asked(), expected)

    def test_many_questions_in_any_order(self):
        chance = random.Random(3)
        blocks = Blocks("10" * 2000, 7)
        expected = []
        for _ in range(3000):
            number = chance.randrange(blocks.many())
            self.assertEqual(blocks.part(number), ("10" * 2000)[7 * number:7 * number + 7])
            if number not in expected:
                expected.append(number)
        self.assertEqual(blocks.asked(), expected)

    def test_a_refused_number_is_not_told(self):
        blocks = Blocks(TEN, 2)
        for wrong in [5, -1, 10 ** 30] + NO_NUMBERS:
            with self.assertRaises(NoBlock):
                blocks.part(wrong)
        self.assertEqual(blocks.asked(), [])
        blocks.part(2)
        with self.assertRaises(NoBlock):
            blocks.part(5)
        blocks.part(1)
        self.assertEqual(blocks.asked(), [2, 1])

    def test_the_answered_list_is_the_askers_own(self):
        blocks = Blocks(TEN, 2)
        blocks.part(2)
        first = blocks.asked()
        first.append(4)
        first[0] = 3
        self.assertEqual(blocks.asked(), [2])
        second = blocks.asked()
        blocks.part(0)
        self.assertEqual(second, [2])
        self.assertEqual(first, [3, 4])
        self.assertEqual(blocks.asked(), [2, 0])
        blocks.asked().clear()
        self.assertEqual(blocks.asked(), [2, 0])

    def test_two_blocks_know_nothing_of_one_another(self):
        one = Blocks(TEN, 2)
        other = Blocks(TEN, 2)
        third = Blocks("1100", 3)
        one.part(4)
        self.assertEqual((one.asked(), other.asked(), third.asked()), ([4], [], []))
        other.part(1)
        third.part(0)
        self.assertEqual((one.asked(), other.asked(), third.asked()), ([4], [1], [0]))
        self.assertEqual((one.length, third.length), (10, 4))
        self.assertEqual((one.size, third.size), (2, 3))
        self.assertEqual((one.part(0), third.part(0)), ("11", "110"))


class Refusals(unittest.TestCase):
    def test_sizes_that_are_none(self):
        for wrong in [0, -1, -2, 4001, 4002, 10 ** 5000, -(10 ** 5000)] + NO_NUMBERS + ["4", [4]]:
            for bits in ("10", TEN, "10" * 2000, "10" * 3000):
                with self.assertRaises(NoSize):
                    Blocks(bits, wrong)

    def test_the_least_and_the_greatest_size(self):
        for size in (1, 4000):
            self.assertEqual(Blocks("10", size).size, size)

    def test_numbers_of_no_block(self):
        for size in (1, 3, 4, 5, 10, 4000):
            blocks = Blocks(TEN, size)
            many = blocks.many()
            for wrong in [-1, -many, -many - 1, many, many + 1, 10, 10 ** 5000, -(10 ** 5000)]:
                with self.assertRaises(NoBlock):
                    blocks.part(wrong)
            for wrong in NO_NUMBERS:
                with self.assertRaises(NoBlock):
                    blocks.part(wrong)

    def test_what_is_wrong_stays_as_it_was(self):
        blocks = Blocks(TEN, 4)
        for wrong in ([0], [[1], {}], {0: [1]}, (0, [1])):
            before = repr(wrong)
            with self.assertRaises(NoBlock):
                blocks.part(wrong)
            with self.assertRaises(NoSize):
                Blocks(TEN, wrong)
            self.assertEqual(repr(wrong), before)


if __name__ == "__main__":
    unittest.main()
