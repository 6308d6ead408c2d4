"""Point 20.1: loading."""

import random
import unittest

from placedanyhow.errors import CodeError, PlacedError
from placedanyhow.loader import Memory, packets
from tests.support import frozen

# The lengths of the parts of images of so many words.
LENGTHS = {1: [1], 7: [7], 8: [8], 9: [8, 1], 16: [8, 8], 17: [8, 8, 1], 300: [8] * 37 + [4]}


def image_of(many):
    return [(k * 7919 + 3) % 65536 for k in range(many)]


class PacketTest(unittest.TestCase):
    def test_the_example(self):
        found = packets(2, [5, 6, 7, 8, 9, 10, 11, 12, 13])
        self.assertEqual(found, [(2, ("load", 0, [5, 6, 7, 8, 9, 10, 11, 12], 9)), (2, ("load", 8, [13], 9))])

    def test_images_of_several_lengths(self):
        for many, lengths in LENGTHS.items():
            for target in (0, 5):
                image = image_of(many)
                found = packets(target, image)
                self.assertEqual(image, image_of(many))
                expected = []
                for k, length in enumerate(lengths):
                    expected.append((target, ("load", 8 * k, image[8 * k:8 * k + length], many)))
                self.assertEqual(frozen(found), frozen(expected))
                self.assertEqual(sum([message[2] for _, message in found], []), image)

    def test_words_that_are_zero(self):
        self.assertEqual(packets(0, [0]), [(0, ("load", 0, [0], 1))])
        self.assertEqual(packets(0, [0] * 9), [(0, ("load", 0, [0] * 8, 9)), (0, ("load", 8, [0], 9))])

    def test_the_lists_may_change_later(self):
        for many in (5, 8, 9):
            image = image_of(many)
            found = packets(1, image)
            image.clear()
            self.assertEqual(found[0][1][2], image_of(many)[:8])
            image = image_of(many)
            found = packets(1, image)
            found[0][1][2].clear()
            self.assertEqual(image, image_of(many))


class MemoryTest(unittest.TestCase):
    def check(self, memory, expected):
        self.assertEqual(frozen(memory.words), frozen(expected))

    def refuses(self, memory, at, first, words, total):
        """Whether a message is refused with this index, and nothing changes."""
        before, passed = list(memory.words), list(words)
        with self.assertRaises(CodeError) as caught:
            memory.load(first, words, total)
        self.assertEqual(caught.exception.at, at)
        self.assertIs(type(caught.exception.at), int)
        self.check(memory, before)
        self.assertEqual(words, passed)

    def test_the_example(self):
        memory = Memory()
        found = [memory.load(1, [7], 2), memory.words, memory.load(0, [6], 2), memory.words]
        self.assertEqual(found, [False, [None, 7], True, [6, 7]])

    def test_an_empty_memory(self):
        self.check(Memory(), [])
        self.assertIsNot(Memory().words, Memory().words)

    def test_one_message(self):
        memory = Memory()
        self.assertIs(memory.load(0, [5, 0, 7], 3), True)
        self.check(memory, [5, 0, 7])

    def test_the_words_at_each_point(self):
        memory = Memory()
        self.assertIs(memory.load(8, [1, 2], 12), False)
        self.check(memory, [None] * 8 + [1, 2, None, None])
        self.assertIs(memory.load(11, [3], 12), False)
        self.check(memory, [None] * 8 + [1, 2, None, 3])
        self.assertIs(memory.load(0, [4] * 8, 12), False)
        self.check(memory, [4] * 8 + [1, 2, None, 3])
        self.assertIs(memory.load(10, [0], 12), True)
        self.check(memory, [4] * 8 + [1, 2, 0, 3])

    def test_words_that_are_zero_have_come(self):
        memory = Memory()
        self.assertIs(memory.load(0, [0], 2), False)
        self.check(memory, [0, None])
        self.refuses(memory, 0, 0, [0], 2)
        self.assertIs(memory.load(1, [0], 2), True)

    def test_images_in_any_order(self):
        rng = random.Random(105)
        for many in LENGTHS:
            for number in range(8):
                image = image_of(many)
                parts = [message for _, message in packets(3, image)]
                if number == 1:
                    parts.reverse()
                elif number > 1:
                    rng.shuffle(parts)
                memory = Memory()
                told = []
                expected = [None] * many
                for _, first, words, total in parts:
                    told.append(memory.load(first, words, total))
                    expected[first:first + len(words)] = words
                    self.check(memory, expected)
                self.assertEqual(told, [False] * (len(parts) - 1) + [True])
                self.check(memory, image)

    def test_it_is_an_error_of_the_program(self):
        self.assertTrue(issubclass(CodeError, PlacedError))
        self.assertRaises(PlacedError, Memory().load, 1, [1], 1)

    def test_another_total(self):
        memory = Memory()
        memory.load(4, [1, 2], 9)
        for first, words, total in ((0, [5], 8), (0, [5], 10), (2, [5, 6], 0), (7, [5], 65535), (8, [5], 1)):
            self.refuses(memory, first, first, words, total)

    def test_words_that_reach_behind(self):
        memory = Memory()
        memory.load(4, [1, 2], 9)
        for first, words in ((8, [5, 6]), (9, [5]), (2, [0] * 8), (65535, [1]), (0, [0] * 10)):
            self.refuses(memory, first, first, words, 9)

    def test_a_first_message_that_reaches_behind(self):
        memory = Memory()
        self.refuses(memory, 0, 0, [1, 2, 3], 2)
        self.refuses(memory, 2, 2, [1], 2)
        self.refuses(memory, 1, 1, [1, 2], 2)
        self.check(memory, [])
        # A message that was refused is not the first one.
        self.assertIs(memory.load(0, [7, 8, 9], 3), True)

    def test_words_that_have_come(self):
        memory = Memory()
        memory.load(3, [1, 2], 9)
        memory.load(6, [3], 9)
        for at, first, many in ((3, 3, 2), (3, 3, 1), (4, 4, 1), (4, 4, 5), (3, 0, 9), (3, 2, 2), (6, 5, 2), (6, 6, 3), (6, 5, 4)):
            self.refuses(memory, at, first, [7] * many, 9)

    def test_the_order_of_the_errors(self):
        memory = Memory()
        memory.load(3, [1, 2], 9)
        # Another total, and words that have come.
        self.refuses(memory, 2, 2, [7, 7, 7], 8)
        # Words that reach behind, and words that have come.
        self.refuses(memory, 2, 2, [7] * 8, 9)
        self.refuses(memory, 0, 0, [7] * 10, 9)
        # All of them.
        self.refuses(memory, 1, 1, [7] * 12, 10)
        # Words that have come behind ones that have not.
        self.refuses(memory, 3, 1, [7, 7, 7], 9)

    def test_loading_goes_on_behind_an_error(self):
        memory = Memory()
        self.assertIs(memory.load(2, [3, 4], 6), False)
        self.refuses(memory, 0, 0, [1, 2], 5)
        self.refuses(memory, 2, 0, [1, 2, 9], 6)
        self.refuses(memory, 4, 4, [5, 6, 7], 6)
        self.assertIs(memory.load(0, [1, 2], 6), False)
        self.refuses(memory, 1, 1, [2], 6)
        self.assertIs(memory.load(4, [5, 6], 6), True)
        self.check(memory, [1, 2, 3, 4, 5, 6])

    def test_a_loaded_memory(self):
        memory = Memory()
        memory.load(0, [1, 2], 2)
        self.refuses(memory, 0, 0, [1, 2], 2)
        self.refuses(memory, 1, 1, [2], 2)
        self.refuses(memory, 2, 2, [3], 2)
        self.refuses(memory, 0, 0, [1], 1)
        self.check(memory, [1, 2])

    def test_memories_are_apart(self):
        one, other = Memory(), Memory()
        one.load(0, [1], 2)
        self.assertIs(other.load(0, [5], 1), True)
        self.check(one, [1, None])
        self.check(other, [5])

    def test_the_words_that_are_passed_may_change_later(self):
        memory = Memory()
        words = [1, 2]
        memory.load(0, words, 4)
        words[0] = 9
        words.clear()
        self.check(memory, [1, 2, None, None])
        last = [3, 4]
        self.assertIs(memory.load(2, last, 4), True)
        last.append(5)
        self.check(memory, [1, 2, 3, 4])

    def test_words_that_were_read_may_change_later(self):
        memory = Memory()
        memory.words.append(1)
        memory.load(0, [1, 2], 4)
        read = memory.words
        read[2] = 8
        read.pop()
        self.assertIs(memory.load(2, [3, 4], 4), True)
        self.check(memory, [1, 2, 3, 4])
        self.assertEqual(read, [1, 2, 8])


if __name__ == "__main__":
    unittest.main()
