"""'The memory' and promise 3 as far as it speaks of find and best."""

import random
import unittest

from tests.helper import TOP, WRONG_ASKS, ask, best, find, last, put, run, take
from tests.model import Model


def score(entry_ask, other):
    """The score that the one entry of a memory has for an ask."""
    found = last(put(entry_ask, [5]), find(0, other))
    assert found[0] == 1 and found[2] == 1
    return found[1]


class Score(unittest.TestCase):
    def test_same_sentence(self):
        self.assertEqual(score(ask([1, 2], 7, 8), ask([1, 2], 7, 8)), 102)
        self.assertEqual(score(ask([1, 2], 7, 8), ask([1, 2], 7, 9)), 101)
        self.assertEqual(score(ask([1, 2], 7, 8), ask([1, 2], 9, 8)), 101)
        self.assertEqual(score(ask([1, 2], 7, 8), ask([1, 2], 9, 9)), 100)

    def test_ahead_is_not_behind(self):
        self.assertEqual(score(ask([1, 2], 7, 8), ask([1, 2], 8, 7)), 100)

    def test_same_sentence_of_another_client(self):
        self.assertEqual(score(ask([1, 2], 7, 8, 0), ask([1, 2], 7, 8, 99)), 99)
        self.assertEqual(score(ask([1, 2], 7, 8, 0), ask([1, 2], 7, 9, 99)), 98)
        self.assertEqual(score(ask([1, 2], 7, 8, 0), ask([1, 2], 9, 8, 1)), 98)
        self.assertEqual(score(ask([1, 2], 7, 8, 0), ask([1, 2], 9, 9, 1)), 97)

    def test_another_sentence(self):
        self.assertEqual(score(ask([1, 2, 3, 4]), ask([1, 2, 3, 5])), 75)
        self.assertEqual(score(ask([1, 2, 3]), ask([1, 2, 4])), 66)
        self.assertEqual(score(ask([1, 2, 3]), ask([1, 2])), 66)
        self.assertEqual(score(ask([1]), ask([1, 2, 3])), 33)
        self.assertEqual(score(ask([1, 2]), ask([2, 1])), 0)

    def test_what_stands_around_another_sentence_does_not_count(self):
        self.assertEqual(score(ask([1, 2], 7, 8), ask([1, 3], 7, 8)), 50)
        self.assertEqual(score(ask([1, 2], 7, 8), ask([1, 3], 8, 7)), 50)

    def test_another_sentence_has_99_at_most(self):
        for place in range(20):
            words = [9999] * 20
            words[place] = 0
            self.assertEqual(score(ask([9999] * 20), ask(words)), 95)
        self.assertEqual(score(ask([9999] * 20), ask([9999] * 19)), 95)

    def test_another_sentence_of_another_client(self):
        self.assertEqual(score(ask([1, 2, 3, 4], client=0), ask([1, 2, 3, 5], client=1)), 72)
        self.assertEqual(score(ask([9999] * 20, client=0), ask([9999] * 19, client=99)), 92)
        self.assertEqual(score(ask([1] + [2] * 19, client=0), ask([1] + [3] * 19, client=1)), 2)

    def test_0_at_least(self):
        self.assertEqual(score(ask([1]), ask([2])), 0)
        self.assertEqual(score(ask([1], client=0), ask([2], client=1)), 0)
        self.assertEqual(score(ask([1] * 20, client=0), ask([2] * 20, client=1)), 0)


class Find(unittest.TestCase):
    def test_nothing_there(self):
        self.assertEqual(run(find(0, ask([1]))), [[0]])
        self.assertEqual(run(find(102, ask([1]))), [[0]])

    def test_higher_score_first(self):
        told = last(
            put(ask([1, 2, 3, 9]), [51]), put(ask([1, 2, 3, 4]), [52]), put(ask([1, 2, 3, 4], 8, 2), [53]),
            put(ask([7]), [54]), put(ask([1, 2, 3, 4], 8, 8), [55]), find(0, ask([1, 2, 3, 4])),
        )
        self.assertEqual(told, [5, 102, 2, 101, 3, 100, 5, 75, 1, 0, 4])

    def test_of_the_same_score_the_higher_number(self):
        told = last(put(ask([1, 7]), [51]), put(ask([1, 8]), [52]), put(ask([1, 9]), [53]), find(0, ask([1, 2])))
        self.assertEqual(told, [3, 50, 3, 50, 2, 50, 1])

    def test_the_same_score_from_another_client_and_sentence(self):
        told = last(put(ask([1], 8, 8, 4), [51]), put(ask([1], 9, 8, 4), [52]), find(97, ask([1])))
        self.assertEqual(told, [2, 97, 2, 97, 1])

    def test_least_score(self):
        entries = [
            put(ask([1, 2]), [51]), put(ask([1, 2], 8), [52]), put(ask([1, 2], 8, 8), [53]),
            put(ask([1, 9]), [54]), put(ask([8, 9]), [55]),
        ]
        found = [102, 1, 101, 2, 100, 3, 50, 4, 0, 5]
        for least, many in ((0, 5), (1, 4), (50, 4), (51, 3), (100, 3), (101, 2), (102, 1)):
            self.assertEqual(last(*entries, find(least, ask([1, 2]))), [many] + found[:2 * many])
        self.assertEqual(last(*entries, find(102, ask([1, 2], 9, 9))), [0])

    def test_the_same_translation_once(self):
        told = last(
            put(ask([1, 2]), [50, 60]), put(ask([1, 3]), [50, 60]), put(ask([1, 4]), [60, 50]),
            put(ask([1, 5]), [50, 60]), find(0, ask([1, 2])),
        )
        self.assertEqual(told, [2, 102, 1, 50, 3])

    def test_of_the_same_translation_and_score_the_higher_number(self):
        told = last(put(ask([1, 3]), [50]), put(ask([1, 4]), [50]), put(ask([1, 5]), [51]), find(0, ask([1, 2])))
        self.assertEqual(told, [2, 50, 3, 50, 2])

    def test_a_translation_that_begins_alike_is_another_one(self):
        told = last(put(ask([1, 3]), [50]), put(ask([1, 4]), [50, 50]), find(0, ask([1, 2])))
        self.assertEqual(told, [2, 50, 2, 50, 1])

    def test_the_memory_is_not_changed(self):
        entries = [put(ask([1]), [5]), put(ask([2]), [5]), put(ask([3]), [6])]
        told = run(*entries, find(0, ask([2])), find(0, ask([2])), find(102, ask([9])), find(0, ask([1])))
        self.assertEqual(told[3:], [[2, 102, 2, 0, 3], [2, 102, 2, 0, 3], [0], [2, 102, 1, 0, 3]])

    def test_thirty_calls(self):
        entries = [put(ask([7, word]), [word % 4]) for word in range(29)]
        self.assertEqual(last(*entries, find(0, ask([7, 0]))), [4, 102, 1, 50, 28, 50, 27, 50, 26])

    def test_against_the_words_of_the_document(self):
        chance = random.Random(2)
        for _ in range(60):
            self.check_by_chance(chance)

    def check_by_chance(self, chance):
        def some_ask():
            words = [chance.randrange(3) for _ in range(chance.randint(1, 4))]
            return ask(words, chance.randrange(2), chance.randrange(2), chance.randrange(2))

        model, calls = Model(), []
        for _ in range(20):
            an_ask, translation = some_ask(), [chance.randrange(6)]
            calls.append(put(an_ask, translation))
            model.put(an_ask, translation)
        wanted, least = some_ask(), chance.choice((0, 1, 30, 50, 97, 98, 100, 102))
        self.assertEqual(last(*calls, find(least, wanted)), model.find(least, wanted))


class Best(unittest.TestCase):
    def test_ordinary(self):
        entries = [put(ask([1, 2, 3]), [50, 51]), put(ask([1, 2, 4]), [60])]
        self.assertEqual(last(*entries, best(ask([1, 2, 3]))), [102, 1, 2, 50, 51])
        self.assertEqual(last(*entries, best(ask([1, 2, 4], 8, 8))), [100, 2, 1, 60])
        self.assertEqual(last(*entries, best(ask([9, 2, 4]))), [66, 2, 1, 60])

    def test_whatever_its_score(self):
        self.assertEqual(last(put(ask([1]), [5]), best(ask([2]))), [0, 1, 1, 5])
        self.assertEqual(last(put(ask([1], client=0), [5]), best(ask([2], client=99))), [0, 1, 1, 5])

    def test_of_the_same_score_the_higher_number(self):
        self.assertEqual(last(put(ask([1]), [5]), put(ask([2]), [6]), best(ask([3]))), [0, 2, 1, 6])

    def test_a_same_sentence_of_another_client_against_a_near_one(self):
        told = last(put(ask([1] * 20, 8, 8, 4), [5]), put(ask([1] * 19), [6]), best(ask([1] * 20)))
        self.assertEqual(told, [97, 1, 1, 5])

    def test_twenty_words(self):
        told = last(put(ask([0] * 20), [9999] * 20), best(ask([0] * 20)))
        self.assertEqual(told, [102, 1, 20] + [9999] * 20)


class Refused(unittest.TestCase):
    def test_edges_are_not_refused(self):
        for words in ([0], [9999], [9999] * 20):
            an_ask = ask(words, 9999, 9999, 99)
            self.assertEqual(last(put(ask([5]), [6]), find(0, an_ask)), [1, 0, 1])
            self.assertEqual(last(put(ask([5]), [6]), best(an_ask)), [0, 1, 1, 6])

    def test_wrong_asks(self):
        for an_ask in WRONG_ASKS:
            told = run(put(ask([1]), [5]), find(0, an_ask), best(an_ask), best(ask([1])), put(ask([2]), [6]))
            self.assertEqual(told, [[1, 1], [-1], [-1], [102, 1, 1, 5], [2, 2]], an_ask)

    def test_least_score_above_102(self):
        for least in (103, 10000, TOP):
            self.assertEqual(run(find(least, ask([1]))), [[-1]])
            self.assertEqual(last(put(ask([1]), [5]), find(least, ask([1]))), [-1])
            self.assertEqual(last(put(ask([1]), [5]), find(least, ask([]))), [-1])

    def test_wrong_asks_of_an_empty_memory(self):
        for an_ask in WRONG_ASKS:
            self.assertEqual(run(find(0, an_ask), best(an_ask)), [[-1], [-1]])

    def test_best_of_an_empty_memory(self):
        self.assertEqual(run(best(ask([1]))), [[-6]])
        told = run(best(ask([1])), put(ask([1]), [5]), best(ask([1])), take(1), best(ask([1])))
        self.assertEqual(told, [[-6], [1, 1], [102, 1, 1, 5], [0], [-6]])


if __name__ == "__main__":
    unittest.main()
