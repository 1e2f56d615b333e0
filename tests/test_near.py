"""near: 'Sentences', and promise 2 as far as it speaks of near."""

import itertools
import unittest

from tests.helper import WRONG_SENTENCES, ask, count, near, put, run, undo
from tests.model import how_near, least_price


class Near(unittest.TestCase):
    def near(self, sentence, other):
        """What near answers, which is the same the other way round."""
        told, turned = run(near(sentence, other), near(other, sentence))
        self.assertEqual(told, turned)
        return told

    def test_ordinary(self):
        self.assertEqual(self.near([1, 2, 3, 4], [1, 2, 3, 4]), [0, 100])
        self.assertEqual(self.near([1, 2, 3, 4], [1, 2, 3, 5]), [1, 75])
        self.assertEqual(self.near([1, 2, 3, 4], [2, 3, 4]), [1, 75])
        self.assertEqual(self.near([1, 2, 3, 4], [2, 3, 4, 1]), [2, 50])
        self.assertEqual(self.near([1, 2], [3, 4]), [2, 0])

    def test_rounded_down(self):
        self.assertEqual(self.near([1, 2, 3], [1, 2, 4]), [1, 66])
        self.assertEqual(self.near([1, 2, 3], [1]), [2, 33])
        self.assertEqual(self.near(list(range(7)), list(range(6))), [1, 85])

    def test_neither_has_words(self):
        self.assertEqual(self.near([], []), [0, 100])

    def test_one_has_no_words(self):
        self.assertEqual(self.near([], [0]), [1, 0])
        self.assertEqual(self.near([], [1, 1]), [2, 0])
        self.assertEqual(self.near([], [9999] * 20), [20, 0])

    def test_one_word(self):
        self.assertEqual(self.near([0], [0]), [0, 100])
        self.assertEqual(self.near([0], [9999]), [1, 0])
        self.assertEqual(self.near([5], [5] * 20), [19, 5])

    def test_twenty_words(self):
        self.assertEqual(self.near([9999] * 20, [9999] * 20), [0, 100])
        self.assertEqual(self.near([9999] * 20, [0] * 20), [20, 0])
        self.assertEqual(self.near(list(range(20)), list(range(19)) + [77]), [1, 95])
        self.assertEqual(self.near([1, 2] * 10, [2, 1] * 10), [2, 90])

    def test_all_short_pairs(self):
        short = [words for length in range(4) for words in itertools.product((0, 1, 2), repeat=length)]
        for one in short:
            for first in range(0, len(short), 20):
                others = short[first:first + 20]
                expected = [[least_price(one, other), how_near(one, other)] for other in others]
                self.assertEqual(run(*[near(one, other) for other in others]), expected)

    def test_the_memory_is_neither_asked_nor_changed(self):
        told = run(put(ask([1]), [5]), near([1], [2]), count(), near([], []), undo(), near([1], [2]), undo())
        self.assertEqual(told, [[1, 1], [1, 0], [1, 1, 2], [0, 100], [0], [1, 0], [-7]])


class Refused(unittest.TestCase):
    def test_each_cause_on_each_side(self):
        for wrong in WRONG_SENTENCES:
            told = run(near(wrong, [1]), near([1], wrong), near(wrong, wrong), near(wrong, []), near([], wrong))
            self.assertEqual(told, [[-1]] * 5, wrong)

    def test_all_is_as_it_was(self):
        for wrong in WRONG_SENTENCES:
            told = run(put(ask([1]), [5]), near(wrong, [1]), near([1], wrong), count(), undo(), undo())
            self.assertEqual(told, [[1, 1], [-1], [-1], [1, 1, 2], [0], [-7]])


if __name__ == "__main__":
    unittest.main()
