"""put and take: promise 1, and promise 2 as far as it speaks of take."""

import unittest

from tests.helper import TOP, ask, best, find, last, put, run, take, way, with_word
from translations.entries import Ask
from translations.store import Store


class Put(unittest.TestCase):
    def test_numbers_from_one_on(self):
        told = run(put(ask([1]), [5]), put(ask([2]), [5]), put(ask([3]), [5]))
        self.assertEqual(told, [[1, 1], [2, 2], [3, 3]])

    def test_the_edges_are_taken(self):
        for sentence in ([0], [9999], [0] * 20, [9999] * 20):
            for translation in ([0], [9999], [0] * 20, [9999] * 20):
                an_ask = ask(sentence, ahead=9999, behind=9999, client=99)
                self.assertEqual(run(put(an_ask, translation)), [[1, 1]])
                self.assertEqual(last(put(an_ask, translation), best(an_ask)), [102, 1, len(translation)] + translation)
        self.assertEqual(run(put(ask([1], 0, 0, 0), [1])), [[1, 1]])

    def test_a_number_is_not_given_again_after_take(self):
        told = run(put(ask([1]), [5]), put(ask([2]), [5]), take(2), put(ask([3]), [5]), put(ask([2]), [5]))
        self.assertEqual(told, [[1, 1], [2, 2], [1], [3, 2], [4, 3]])


class PutInstead(unittest.TestCase):
    def test_nothing_of_the_old_is_left(self):
        told = run(
            put(ask([1, 2]), [50]), put(ask([1, 2]), [60]), find(0, ask([1, 2])), best(ask([1, 2])),
            with_word(50), with_word(60), way(1, [1]), take(1), take(2),
        )
        self.assertEqual(told, [[1, 1], [2, 1], [1, 102, 2], [102, 2, 1, 60], [0], [1, 2, 0, 1], [-2], [-2], [0]])

    def test_also_with_the_same_translation(self):
        self.assertEqual(run(put(ask([1]), [5]), put(ask([1]), [5])), [[1, 1], [2, 1]])

    def test_another_entry_stays(self):
        told = run(put(ask([1]), [5]), put(ask([2]), [6]), put(ask([1]), [7]), find(0, ask([2])))
        self.assertEqual(told, [[1, 1], [2, 2], [3, 2], [2, 102, 2, 0, 3]])

    def test_any_difference_in_the_ask_is_another_entry(self):
        others = (
            ask([1, 2], ahead=7), ask([1, 2], behind=7), ask([1, 2], client=7), ask([1, 3]), ask([2, 1]),
            ask([1]), ask([1, 2, 2]), ask([1, 2], ahead=2, behind=1),
        )
        for other in others:
            self.assertEqual(run(put(ask([1, 2]), [5]), put(other, [5])), [[1, 1], [2, 2]], other)

    def test_again_after_it_was_taken_out(self):
        told = run(put(ask([1]), [5]), take(1), put(ask([1]), [6]), best(ask([1])))
        self.assertEqual(told, [[1, 1], [0], [2, 1], [102, 2, 1, 6]])


class PutRefused(unittest.TestCase):
    wrong = (
        put(ask([]), [5]),
        put(ask([1] * 21), [5]),
        put(ask([1] * 25), [5]),
        put(ask([10000]), [5]),
        put(ask([1] * 19 + [10000]), [5]),
        put(ask([10000] + [1] * 19), [5]),
        put(ask([TOP]), [5]),
        put(ask([1], ahead=10000), [5]),
        put(ask([1], ahead=TOP), [5]),
        put(ask([1], behind=10000), [5]),
        put(ask([1], behind=TOP), [5]),
        put(ask([1], client=100), [5]),
        put(ask([1], client=TOP), [5]),
        put(ask([1]), []),
        put(ask([1]), [1] * 21),
        put(ask([1]), [1] * 25),
        put(ask([1]), [10000]),
        put(ask([1]), [1] * 19 + [TOP]),
        put(ask([], 10000, 10000, 100), []),
    )

    def test_each_cause(self):
        for call in self.wrong:
            self.assertEqual(run(call), [[-1]], call)

    def test_all_is_as_it_was(self):
        for call in self.wrong:
            told = run(put(ask([1]), [7]), call, best(ask([1])), find(0, ask([1])), with_word(5), put(ask([2]), [6]))
            self.assertEqual(told, [[1, 1], [-1], [102, 1, 1, 7], [1, 102, 1], [0], [2, 2]], call)


class ThirtyEntries(unittest.TestCase):
    """30 entries need 30 calls, all that a list may have; so these ask the memory itself."""

    def setUp(self):
        self.store = Store()
        for word in range(30):
            self.assertEqual(self.store.put(Ask(1, 2, 3, [word]), [word]), [word + 1, word + 1])

    def test_thirty_in_one_list(self):
        told = run(*[put(ask([word]), [word]) for word in range(30)])
        self.assertEqual(told, [[number, number] for number in range(1, 31)])

    def test_one_more_is_refused_and_all_is_as_it_was(self):
        self.assertEqual(self.store.put(Ask(1, 2, 3, [30]), [77]), [-5])
        self.assertEqual(self.store.with_word(77), [0])
        self.assertEqual(self.store.find(100, Ask(1, 2, 3, [0])), [1, 102, 1])
        self.assertEqual(self.store.take(30), [29])
        self.assertEqual(self.store.put(Ask(1, 2, 3, [30]), [77]), [31, 30])

    def test_almost_the_same_ask_is_refused(self):
        for an_ask in (Ask(9, 2, 3, [4]), Ask(1, 9, 3, [4]), Ask(1, 2, 9, [4]), Ask(1, 2, 3, [4, 4])):
            self.assertEqual(self.store.put(an_ask, [77]), [-5])

    def test_instead_of_one_is_not_refused(self):
        self.assertEqual(self.store.put(Ask(1, 2, 3, [4]), [77]), [31, 30])
        self.assertEqual(self.store.best(Ask(1, 2, 3, [4])), [102, 31, 1, 77])
        self.assertEqual(self.store.take(5), [-2])
        self.assertEqual(self.store.put(Ask(1, 2, 3, [30]), [77]), [-5])

    def test_the_refusal_told_first(self):
        self.assertEqual(self.store.put(Ask(1, 2, 3, []), [77]), [-1])
        self.assertEqual(self.store.put(Ask(1, 2, 100, [30]), [77]), [-1])
        self.assertEqual(self.store.put(Ask(1, 2, 3, [30]), []), [-1])


class Take(unittest.TestCase):
    def test_leaves_no_trace(self):
        told = run(
            put(ask([1]), [5]), put(ask([2]), [6]), take(1), find(0, ask([1])), best(ask([1])),
            with_word(1), with_word(5), way(1, [1]), take(2),
        )
        self.assertEqual(told, [[1, 1], [2, 2], [1], [1, 0, 2], [0, 2, 1, 6], [0], [0], [-2], [0]])

    def test_what_was_behind_the_taken_one_is_found(self):
        told = last(put(ask([1]), [5]), put(ask([1], ahead=8), [5]), take(2), find(0, ask([1], ahead=8)))
        self.assertEqual(told, [1, 101, 1])

    def test_no_such_entry(self):
        for number in (0, 2, 10000, TOP):
            told = run(put(ask([1]), [5]), take(number), with_word(1), put(ask([2]), [5]))
            self.assertEqual(told, [[1, 1], [-2], [1, 1, 1, 0], [2, 2]])
        self.assertEqual(run(take(1)), [[-2]])
        self.assertEqual(run(take(0)), [[-2]])

    def test_twice(self):
        self.assertEqual(run(put(ask([1]), [5]), take(1), take(1)), [[1, 1], [0], [-2]])


if __name__ == "__main__":
    unittest.main()
