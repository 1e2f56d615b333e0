"""way and with_word: promise 2 as far as it speaks of way, and what with answers."""

import unittest

from tests.helper import TOP, WRONG_SENTENCES, ask, best, last, put, run, take, way, with_word


class Way(unittest.TestCase):
    def test_from_the_entry_to_the_sentence(self):
        entry = put(ask([1, 2, 3]), [5])
        self.assertEqual(last(entry, way(1, [1, 2, 3])), [0, 3, 0, 0, 0])
        self.assertEqual(last(entry, way(1, [1, 9, 3])), [1, 3, 0, 1, 0])
        self.assertEqual(last(entry, way(1, [1, 3])), [1, 3, 0, 2, 0])
        self.assertEqual(last(entry, way(1, [1, 2, 9, 3])), [1, 4, 0, 0, 3, 0])
        self.assertEqual(last(entry, way(1, [2, 3, 4])), [2, 4, 2, 0, 0, 3])

    def test_no_words(self):
        self.assertEqual(last(put(ask([1, 2, 3]), [5]), way(1, [])), [3, 3, 2, 2, 2])

    def test_one_and_twenty_words(self):
        self.assertEqual(last(put(ask([0]), [5]), way(1, [0] * 20)), [19, 20] + [3] * 19 + [0])
        self.assertEqual(last(put(ask([0] * 20), [5]), way(1, [0])), [19, 20] + [2] * 19 + [0])
        self.assertEqual(last(put(ask([0] * 20), [5]), way(1, [9999] * 20)), [20, 20] + [1] * 20)

    def test_more_steps_than_either_has_words(self):
        entry = put(ask(range(20)), [5])
        self.assertEqual(last(entry, way(1, list(range(1, 20)) + [77])), [2, 21, 2] + [0] * 19 + [3])

    def test_taken_out_at_the_end_rather_than_put_in(self):
        self.assertEqual(last(put(ask([1, 2] * 10), [5]), way(1, [2, 1] * 10)), [2, 21, 3] + [0] * 19 + [2])

    def test_the_translation_does_not_count(self):
        self.assertEqual(last(put(ask([1]), [2]), way(1, [2])), [1, 1, 1])

    def test_the_entry_with_that_number(self):
        told = last(put(ask([1]), [5]), put(ask([2]), [5]), take(1), way(2, [2]))
        self.assertEqual(told, [0, 1, 0])

    def test_no_such_entry(self):
        for number in (0, 2, TOP):
            self.assertEqual(last(put(ask([1]), [5]), way(number, [1])), [-2])
        self.assertEqual(run(way(1, [1])), [[-2]])

    def test_wrong_sentence(self):
        for words in WRONG_SENTENCES:
            told = run(put(ask([1]), [5]), way(1, words), best(ask([1])), put(ask([2]), [6]))
            self.assertEqual(told, [[1, 1], [-1], [102, 1, 1, 5], [2, 2]])

    def test_the_refusal_told_first(self):
        for words in WRONG_SENTENCES:
            self.assertEqual(run(put(ask([1]), [5]), way(2, words)), [[1, 1], [-2]])
            self.assertEqual(run(way(1, words)), [[-2]])


class WithWord(unittest.TestCase):
    def test_sentence_and_translation(self):
        told = run(
            put(ask([1, 2, 1]), [5]), put(ask([2]), [1]), put(ask([3]), [4]), put(ask([1, 3]), [1, 1, 1]),
            with_word(1), with_word(2), with_word(4), with_word(6),
        )
        self.assertEqual(told[4:], [[3, 1, 2, 0, 2, 0, 1, 4, 1, 3], [2, 1, 1, 0, 2, 1, 0], [1, 3, 0, 1], [0]])

    def test_by_number_also_after_put_instead_and_take(self):
        told = last(
            put(ask([1]), [1]), put(ask([1, 2]), [1]), put(ask([1, 3]), [1]), put(ask([1]), [2]), take(2), with_word(1),
        )
        self.assertEqual(told, [2, 3, 1, 1, 4, 1, 0])

    def test_the_same_translation_is_told_each_time(self):
        self.assertEqual(last(put(ask([1]), [5]), put(ask([2]), [5]), with_word(5)), [2, 1, 0, 1, 2, 0, 1])

    def test_edges(self):
        told = run(put(ask([0] * 20), [9999] * 20), with_word(0), with_word(9999))
        self.assertEqual(told[1:], [[1, 1, 20, 0], [1, 1, 0, 20]])

    def test_only_words_count(self):
        told = run(put(ask([1], 7, 8, 9), [2]), with_word(7), with_word(8), with_word(9))
        self.assertEqual(told[1:], [[0], [0], [0]])

    def test_nothing_is_refused(self):
        self.assertEqual(run(with_word(0)), [[0]])
        for word in (10000, TOP):
            self.assertEqual(run(put(ask([1]), [5]), with_word(word)), [[1, 1], [0]])


if __name__ == "__main__":
    unittest.main()
