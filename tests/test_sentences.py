"""'Sentences': the distance, how near two are, and the one way that is told."""

import itertools
import random
import unittest

from tests.model import EXCHANGED, KEPT, PUT_IN, TAKEN_OUT, least_price, way_as_told
from translations.sentences import distance_between, is_sentence, nearness_of, way_between


def leads_there(steps, first, second):
    """Whether the steps go through both sentences to their ends, each step rightly named."""
    first, second = list(first), list(second)
    for step in steps:
        one = first.pop(0) if step != PUT_IN else None
        other = second.pop(0) if step != TAKEN_OUT else None
        if (step == KEPT and one != other) or (step == EXCHANGED and one == other):
            return False
    return not first and not second


def sentence_pairs():
    short = [words for length in range(5) for words in itertools.product((0, 1, 9999), repeat=length)]
    chance = random.Random(1)
    pairs = [(one, other) for one in short for other in short]
    for _ in range(200):
        one = tuple(chance.randrange(4) for _ in range(chance.randint(0, 20)))
        other = tuple(chance.randrange(4) for _ in range(chance.randint(0, 20)))
        pairs.append((one, other))
    return pairs


class IsSentence(unittest.TestCase):
    def test_edges(self):
        self.assertTrue(is_sentence([]))
        self.assertTrue(is_sentence([0]))
        self.assertTrue(is_sentence([9999] * 20))
        self.assertFalse(is_sentence([0] * 21))
        self.assertFalse(is_sentence([10000]))
        self.assertFalse(is_sentence([1] * 19 + [10000]))


class Distance(unittest.TestCase):
    def test_ordinary(self):
        self.assertEqual(distance_between([1, 2, 3], [1, 2, 3]), 0)
        self.assertEqual(distance_between([1, 2, 3], [1, 9, 3]), 1)
        self.assertEqual(distance_between([1, 2, 3], [2, 3]), 1)
        self.assertEqual(distance_between([1, 2], [2, 1]), 2)
        self.assertEqual(distance_between([1, 2, 3], [4, 5, 6]), 3)

    def test_no_words(self):
        self.assertEqual(distance_between([], []), 0)
        self.assertEqual(distance_between([], [1, 1]), 2)
        self.assertEqual(distance_between([7], []), 1)

    def test_no_way_is_cheaper(self):
        for first, second in sentence_pairs():
            self.assertEqual(distance_between(list(first), list(second)), least_price(first, second))


class HowNear(unittest.TestCase):
    def test_ordinary(self):
        self.assertEqual(nearness_of([1, 2, 3, 4], [1, 2, 3, 5]), 75)
        self.assertEqual(nearness_of([1, 2], [3, 4]), 0)

    def test_rounded_down(self):
        self.assertEqual(nearness_of([1, 2, 3], [1, 2, 4]), 66)
        self.assertEqual(nearness_of([1, 2, 3], [1, 5, 4]), 33)

    def test_the_longer_one_counts(self):
        self.assertEqual(nearness_of([1], [1, 2, 3, 4]), 25)
        self.assertEqual(nearness_of([1, 2, 3, 4], [1]), 25)

    def test_edges(self):
        self.assertEqual(nearness_of([], []), 100)
        self.assertEqual(nearness_of([], [1]), 0)
        self.assertEqual(nearness_of([0], [0]), 100)
        self.assertEqual(nearness_of(list(range(20)), list(range(19)) + [77]), 95)


class Way(unittest.TestCase):
    def test_ordinary(self):
        self.assertEqual(way_between([1, 2, 3], [1, 9, 3]), [0, 1, 0])
        self.assertEqual(way_between([1, 2, 3], [1, 3]), [0, 2, 0])
        self.assertEqual(way_between([1, 3], [1, 2, 3]), [0, 3, 0])

    def test_no_words(self):
        self.assertEqual(way_between([], []), [])
        self.assertEqual(way_between([4, 5], []), [2, 2])
        self.assertEqual(way_between([], [4, 5]), [3, 3])

    def test_the_last_of_several_same_words_is_kept(self):
        self.assertEqual(way_between([1, 1], [1]), [2, 0])
        self.assertEqual(way_between([1], [1, 1]), [3, 0])

    def test_exchanged_rather_than_taken_out_and_put_in(self):
        self.assertEqual(way_between([1, 2], [2, 1]), [1, 1])
        self.assertEqual(way_between([1, 2], [3]), [2, 1])
        self.assertEqual(way_between([3], [1, 2]), [3, 1])

    def test_taken_out_rather_than_put_in(self):
        self.assertEqual(way_between([1, 2, 1], [2, 1, 2]), [3, 0, 0, 2])
        self.assertEqual(way_between([1, 2, 1, 2, 1], [2, 1, 2, 1, 2]), [3, 0, 0, 0, 0, 2])

    def test_put_in_where_nothing_else_is_cheap_enough(self):
        self.assertEqual(way_between([1, 2, 3, 4], [2, 3, 4, 1]), [2, 0, 0, 0, 3])

    def test_all_pairs(self):
        for first, second in sentence_pairs():
            steps = way_between(list(first), list(second))
            self.assertEqual(steps, way_as_told(first, second), (first, second))
            self.assertTrue(leads_there(steps, first, second), (first, second))
            self.assertEqual(len([step for step in steps if step != KEPT]), least_price(first, second))


if __name__ == "__main__":
    unittest.main()
